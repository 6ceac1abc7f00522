/- Layer 12 (gemm): the document's product of two matrices. -/
import Derived.Test.YtbkbflhjfmkcoaaGemmMulC
namespace Go.Proofs.Ytbkbflhjfmkcoaa.CGemm
open Go Go.ChangeShapes Go.WideShapes Go.ChangeAt Go.RowKit
open Plain
set_option linter.unusedVariables false

theorem holdsB_no {L r c : Int} (h : holdsB L r c = false) : r < 1 ∨ (1 ≤ r ∧ 16384 < r) ∨ (1 ≤ r ∧ r ≤ 16384 ∧ c < 1) ∨ (1 ≤ r ∧ r ≤ 16384 ∧ 1 ≤ c ∧ 16384 < c) ∨ (1 ≤ r ∧ r ≤ 16384 ∧ 1 ≤ c ∧ c ≤ 16384 ∧ L ≠ r * c) := by
  simp only [holdsB, decide_eq_false_iff_not] at h
  by_cases e : L = r * c
  · omega
  · omega
set_option maxHeartbeats 2000000 in
theorem refMul_no (A B : Option Addr) (n1 n2 c1 c2 : Nat) (r m c : Int) (h : (holdsB n1 r m && holdsB n2 c m) = false) (w : World) :
    Calls Try.prog 9 #[.slice A n1 c1, .slice B n2 c2, .int .i64 r, .int .i64 m, .int .i64 c] w fun e w' => e = .returned (.slice none 0 0) ∧ w = w' := by
  have hcs : (r < 1 ∨ (1 ≤ r ∧ 16384 < r) ∨ (1 ≤ r ∧ r ≤ 16384 ∧ m < 1) ∨ (1 ≤ r ∧ r ≤ 16384 ∧ 1 ≤ m ∧ 16384 < m) ∨ (1 ≤ r ∧ r ≤ 16384 ∧ 1 ≤ m ∧ m ≤ 16384 ∧ c < 1) ∨ (1 ≤ r ∧ r ≤ 16384 ∧ 1 ≤ m ∧ m ≤ 16384 ∧ 1 ≤ c ∧ 16384 < c)) ∨
      (1 ≤ r ∧ r ≤ 16384 ∧ 1 ≤ m ∧ m ≤ 16384 ∧ 1 ≤ c ∧ c ≤ 16384 ∧ ((n1 : Int) ≠ r * m ∨ ((n1 : Int) = r * m ∧ (n2 : Int) ≠ c * m))) := by
    rw [Bool.and_eq_false_iff] at h
    rcases h with h | h
    · have := holdsB_no h
      by_cases e : (n1 : Int) = r * m <;> by_cases e2 : (n2 : Int) = c * m <;> omega
    · have := holdsB_no h
      by_cases e : (n1 : Int) = r * m <;> by_cases e2 : (n2 : Int) = c * m <;> omega
  clear h
  rcases hcs with (h | ⟨h1, h2⟩ | ⟨h1, h2, h3⟩ | ⟨h1, h2, h3, h4⟩ | ⟨h1, h2, h3, h4, h5⟩ | ⟨h1, h2, h3, h4, h5, h6⟩) | ⟨h1, h2, h3, h4, h5, h6, h7⟩
  rotate_right
  · obtain ⟨s1, s2⟩ := small_mul h1 h2 h3 h4
    obtain ⟨s3, s4⟩ := small_mul h5 h6 h3 h4
    obtain ⟨p, hp⟩ : ∃ p, r * m = p := ⟨_, rfl⟩
    obtain ⟨q, hq⟩ : ∃ q, c * m = q := ⟨_, rfl⟩
    have e1 : IntKind.i64.wrap (r * m) = p := by rw [IntWalk.i64_in _ (by omega)]; exact hp
    have e2 : IntKind.i64.wrap (c * m) = q := by rw [IntWalk.i64_in _ (by omega)]; exact hq
    rw [hp, hq] at h7
    clear hp hq s1 s2 s3 s4
    rcases h7 with h7 | ⟨h7, h8⟩
    · go_enter Try.func9, Try.ntmps9
      go_wp2_with fail
      go_ret
      exact ⟨rfl, rfl⟩
    · subst h7
      have h9 : ((n2 : Int) != q) = true := by simpa using h8
      have h10 : ((n2 : Int) == q) = false := by simpa using h8
      go_enter Try.func9, Try.ntmps9
      go_wp2_with fail
      go_ret
      exact ⟨rfl, rfl⟩
  all_goals
    go_enter Try.func9, Try.ntmps9
    go_wp2_with fail
    go_ret
    exact ⟨rfl, rfl⟩
set_option maxRecDepth 100000 in
set_option maxHeartbeats 4000000 in
theorem refMul_yes (A B : Option Addr) (xs ys : List Int) (n1 n2 c1 c2 r m c N : Nat) (hx : xs.length = n1) (hy : ys.length = n2) (h1 : holdsB n1 r m = true) (h2 : holdsB n2 c m = true) (hN : r * c = N) (hN1 : N ≤ 1000000)
    (hnc1 : n1 ≤ c1) (hnc2 : n2 ≤ c2) (hc1 : c1 ≤ maxLen) (hc2 : c2 ≤ maxLen) (hxb : I16b xs) (hyb : I8b ys) (F : Nat → Int) (hF : F = mulF xs ys m c) (w : World)
    (hr : Kit.Rd w w.heap.size A (xs.map (.int .i16))) (hs : Kit.Rd w w.heap.size B (ys.map (.int .i8))) :
    Calls Try.prog 9 #[.slice A n1 c1, .slice B n2 c2, .int .i64 (r : Int), .int .i64 (m : Int), .int .i64 (c : Int)] w (Owned w 21 N (I32v (rowL F N))) := by
  obtain ⟨g1, g2, g3, g4, g5⟩ := holdsB_yes h1
  obtain ⟨g6, g7, -, -, g8⟩ := holdsB_yes h2
  have hn1 : n1 = r * m := by have := g5; rw [← Int.natCast_mul] at this; exact Int.ofNat.inj this
  have hn2 : n2 = c * m := by have := g8; rw [← Int.natCast_mul] at this; exact Int.ofNat.inj this
  have hrm : IntKind.i64.wrap ((r : Int) * (m : Int)) = (n1 : Int) := by
    have := small_mul g1 g2 g3 g4
    rw [g5]; exact IntWalk.i64_in _ (by omega)
  have hcm : IntKind.i64.wrap ((c : Int) * (m : Int)) = (n2 : Int) := by
    have := small_mul g6 g7 g3 g4
    rw [g8]; exact IntWalk.i64_in _ (by omega)
  have hm0 : 0 < m := by omega
  have hc0 : 0 < c := by omega
  have hr0 : 0 < r := by omega
  have hp1 : 0 < xs.length := by rw [hx, hn1]; exact Nat.mul_pos hr0 hm0
  have hp2 : 0 < ys.length := by rw [hy, hn2]; exact Nat.mul_pos hc0 hm0
  obtain ⟨b1, o1, rfl, hb1, -⟩ := ints_getD hr (j := 0) hp1
  obtain ⟨b2, o2, rfl, hb2, -⟩ := ints_getD hs (j := 0) hp2
  have hcm1 : c1 ≤ 9223372036854775807 := by unfold maxLen at hc1; omega
  have hcm2 : c2 ≤ 9223372036854775807 := by unfold maxLen at hc2; omega
  have HX := Lib.hid hx
  have HY := Lib.hid hy
  have HF := Lib.hid hF
  have HR := Lib.hid hr
  have HS := Lib.hid hs
  have HXB := Lib.hid hxb
  have HYB := Lib.hid hyb
  have HN1 := Lib.hid hn1
  have HN2 := Lib.hid hn2
  have HNN := Lib.hid hN
  clear h1 h2 hx hy hF hr hs hxb hyb hn1 hn2 hN g5 g8 hc1 hc2
  go_enter Try.func9, Try.ntmps9
  obtain ⟨i0, hi0, hi1, hi2, hi3⟩ := info_parts info_i32
  go_wp2_with fail
  clear hrm hcm
  go_loopw [11, 12] (fun o u wr => ∃ i : Nat, i ≤ r ∧ u = .int .i64 i ∧ Hid (wr.ownsRow w.heap.size 21 1 o (i * c) (I32v (rowL F (i * c)))) ∧ Hid (Below w.heap.size w wr)) (fun _ u _ => r - (intOf u).toNat)
  case atStart => exact ⟨0, Nat.zero_le _, rfl, Lib.hid ⟨by simp [rowL, I32v], .inl ⟨rfl, by simp⟩⟩, Lib.hid (Below.refl _ _)⟩
  case round =>
    obtain ⟨i, hi, rfl, HO1, HB1⟩ := hrel
    by_cases hlt : i < r
    · have hiI : (i : Int) < (r : Int) := by omega
      go_wp2_with fail
      go_loopw [11, 13] (fun o u wr => ∃ j : Nat, j ≤ c ∧ u = .int .i64 j ∧ Hid (wr.ownsRow w.heap.size 21 1 o (i * c + j) (I32v (rowL F (i * c + j)))) ∧ Hid (Below w.heap.size w wr)) (fun _ u _ => c - (intOf u).toNat)
      case atStart => exact ⟨0, Nat.zero_le _, rfl, by rw [Nat.add_zero]; exact HO1, HB1⟩
      case round =>
        clear HO1 HB1
        obtain ⟨j, hj, rfl, HO1, HB1⟩ := hrel
        by_cases hltj : j < c
        · have hjI : (j : Int) < (c : Int) := by omega
          obtain ⟨I1, hI1⟩ : ∃ I1, i * c = I1 := ⟨_, rfl⟩
          obtain ⟨I2, hI2⟩ : ∃ I2, I1 + j = I2 := ⟨_, rfl⟩
          obtain ⟨A1, hA1⟩ : ∃ A1, i * m = A1 := ⟨_, rfl⟩
          obtain ⟨A2, hA2⟩ : ∃ A2, A1 + m = A2 := ⟨_, rfl⟩
          obtain ⟨B1, hB1⟩ : ∃ B1, j * m = B1 := ⟨_, rfl⟩
          obtain ⟨B2, hB2⟩ : ∃ B2, B1 + m = B2 := ⟨_, rfl⟩
          have hIN : I2 < N := by rw [← HNN.out, ← hI2, ← hI1]; exact place_lt hlt hltj
          have hAn : A2 ≤ n1 := by rw [HN1.out, ← hA2, ← hA1]; have := Nat.mul_le_mul_right m (show i + 1 ≤ r by omega); rwa [Nat.add_mul, Nat.one_mul] at this
          have hBn : B2 ≤ n2 := by rw [HN2.out, ← hB2, ← hB1]; have := Nat.mul_le_mul_right m (show j + 1 ≤ c by omega); rwa [Nat.add_mul, Nat.one_mul] at this
          obtain ⟨i', hi'⟩ : ∃ i', i + 1 = i' := ⟨_, rfl⟩
          obtain ⟨j', hj'⟩ : ∃ j', j + 1 = j' := ⟨_, rfl⟩
          rw [hI1, hI2] at HO1
          have w3 : IntKind.i64.wrap ((i : Int) * (m : Int)) = (A1 : Int) := by rw [← Int.natCast_mul, hA1]; exact IntWalk.i64_in _ (by omega)
          have w4 : IntKind.i64.wrap ((i : Int) + 1) = (i' : Int) := by rw [IntWalk.i64_in _ (by omega)]; omega
          have w5 : IntKind.i64.wrap ((i' : Int) * (m : Int)) = (A2 : Int) := by rw [← Int.natCast_mul, ← hi', Nat.add_mul, Nat.one_mul, hA1, hA2]; exact IntWalk.i64_in _ (by omega)
          have w6 : IntKind.i64.wrap ((j : Int) * (m : Int)) = (B1 : Int) := by rw [← Int.natCast_mul, hB1]; exact IntWalk.i64_in _ (by omega)
          have w7 : IntKind.i64.wrap ((j : Int) + 1) = (j' : Int) := by rw [IntWalk.i64_in _ (by omega)]; omega
          have w8 : IntKind.i64.wrap ((j' : Int) * (m : Int)) = (B2 : Int) := by rw [← Int.natCast_mul, ← hj', Nat.add_mul, Nat.one_mul, hB1, hB2]; exact IntWalk.i64_in _ (by omega)
          have s1 : (0 : Int) ≤ (A1 : Int) := by omega
          have s2 : (A1 : Int) ≤ (A2 : Int) := by omega
          have s3 : (A2 : Int) ≤ (c1 : Int) := by omega
          have s4 : ¬ c1 = A1 := by omega
          have s5 : (0 : Int) ≤ (B1 : Int) := by omega
          have s6 : (B1 : Int) ≤ (B2 : Int) := by omega
          have s7 : (B2 : Int) ≤ (c2 : Int) := by omega
          have s8 : ¬ c2 = B1 := by omega
          have sA : A2 - A1 = m := by omega
          have sB : B2 - B1 = m := by omega
          have hFv := mul_at xs ys hI1 hI2 hltj hA1 hB1 HF.out
          obtain ⟨D, hD⟩ : ∃ D, psum (dotF ((xs.drop A1).take m) ((ys.drop B1).take m)) m = D := ⟨_, rfl⟩
          rw [hD] at hFv
          have HD := Lib.hid hD
          have HI1 := Lib.hid hI1
          have HI2 := Lib.hid hI2
          have HJ := Lib.hid hj'
          have hFv' := hFv
          have HFV := Lib.hid hFv'
          obtain ⟨fv, hfv⟩ : ∃ fv, F I2 = fv := ⟨_, rfl⟩
          rw [hfv] at hFv
          have HFW := Lib.hid hfv
          clear hI1 hI2 hA1 hA2 hB1 hB2 hi' hj' hD hFv' hfv
          go_wp2_with fail
          refine wp_region_held_drew (S := fun _ => True) (by kernel_rfl) trivial (fun hHeld => ?_)
          refine wpAnyH_take (i := 0) (oi := ({ dst := some 62, op := Op.move (Operand.tmp 11), type := 26, pos := "ref.go:21", after := #[], guard := none } : Oper)) (v := ?_) rfl (by kernel_rfl) (by kernel_rfl) (by kernel_rfl) (fun _ _ _ h => h) (Or.inl ⟨by rfl, ?_⟩) (by assumption) ?_
          rotate_left
          · intro wS hSw
            first
              | (go_simp; done)
              | (go_simp; with_reducible rfl)
          try simp only [Act.put, List.setIfInBounds_toArray, List.set_cons_zero, List.set_cons_succ]
          refine wpAnyH_take (i := 1) (oi := ({ dst := some 63, op := Op.move (Operand.tmp 0), type := 22, pos := "ref.go:21", after := #[], guard := none } : Oper)) (v := ?_) rfl (by kernel_rfl) (by kernel_rfl) (by kernel_rfl) (fun _ _ _ h => h) (Or.inl ⟨by rfl, ?_⟩) (by assumption) ?_
          rotate_left
          · intro wS hSw
            first
              | (go_simp; done)
              | (go_simp; with_reducible rfl)
          try simp only [Act.put, List.setIfInBounds_toArray, List.set_cons_zero, List.set_cons_succ]
          refine wpAnyH_take (i := 2) (oi := ({ dst := some 64, op := Op.move (Operand.tmp 12), type := 3, pos := "ref.go:21", after := #[], guard := none } : Oper)) (v := ?_) rfl (by kernel_rfl) (by kernel_rfl) (by kernel_rfl) (fun _ _ _ h => h) (Or.inl ⟨by rfl, ?_⟩) (by assumption) ?_
          rotate_left
          · intro wS hSw
            first
              | (go_simp; done)
              | (go_simp; with_reducible rfl)
          try simp only [Act.put, List.setIfInBounds_toArray, List.set_cons_zero, List.set_cons_succ]
          refine wpAnyH_take (i := 3) (oi := ({ dst := some 65, op := Op.move (Operand.tmp 3), type := 3, pos := "ref.go:21", after := #[], guard := none } : Oper)) (v := ?_) rfl (by kernel_rfl) (by kernel_rfl) (by kernel_rfl) (fun _ _ _ h => h) (Or.inl ⟨by rfl, ?_⟩) (by assumption) ?_
          rotate_left
          · intro wS hSw
            first
              | (go_simp; done)
              | (go_simp; with_reducible rfl)
          try simp only [Act.put, List.setIfInBounds_toArray, List.set_cons_zero, List.set_cons_succ]
          refine wpAnyH_take (i := 4) (oi := ({ dst := some 66, op := Op.binOp BinOp.mul 3 (Operand.tmp 64) (Operand.tmp 65) 3, type := 3, pos := "ref.go:21", after := #[{ on := 2, ground := Ground.data }, { on := 3, ground := Ground.data }], guard := none } : Oper)) (v := ?_) rfl (by kernel_rfl) (by kernel_rfl) (by kernel_rfl) (fun _ _ _ h => h) (Or.inl ⟨by rfl, ?_⟩) (by assumption) ?_
          rotate_left
          · intro wS hSw
            first
              | (go_simp; done)
              | (go_simp; with_reducible rfl)
          try simp only [Act.put, List.setIfInBounds_toArray, List.set_cons_zero, List.set_cons_succ]
          refine wpAnyH_take (i := 5) (oi := ({ dst := some 67, op := Op.move (Operand.tmp 12), type := 3, pos := "ref.go:21", after := #[], guard := none } : Oper)) (v := ?_) rfl (by kernel_rfl) (by kernel_rfl) (by kernel_rfl) (fun _ _ _ h => h) (Or.inl ⟨by rfl, ?_⟩) (by assumption) ?_
          rotate_left
          · intro wS hSw
            first
              | (go_simp; done)
              | (go_simp; with_reducible rfl)
          try simp only [Act.put, List.setIfInBounds_toArray, List.set_cons_zero, List.set_cons_succ]
          refine wpAnyH_take (i := 6) (oi := ({ dst := some 68, op := Op.binOp BinOp.add 3 (Operand.tmp 67) (Operand.const (Value.int IntKind.i64 1)) 3, type := 3, pos := "ref.go:21", after := #[{ on := 5, ground := Ground.data }], guard := none } : Oper)) (v := ?_) rfl (by kernel_rfl) (by kernel_rfl) (by kernel_rfl) (fun _ _ _ h => h) (Or.inl ⟨by rfl, ?_⟩) (by assumption) ?_
          rotate_left
          · intro wS hSw
            first
              | (go_simp; done)
              | (go_simp; with_reducible rfl)
          try simp only [Act.put, List.setIfInBounds_toArray, List.set_cons_zero, List.set_cons_succ]
          refine wpAnyH_take (i := 7) (oi := ({ dst := some 69, op := Op.move (Operand.tmp 3), type := 3, pos := "ref.go:21", after := #[], guard := none } : Oper)) (v := ?_) rfl (by kernel_rfl) (by kernel_rfl) (by kernel_rfl) (fun _ _ _ h => h) (Or.inl ⟨by rfl, ?_⟩) (by assumption) ?_
          rotate_left
          · intro wS hSw
            first
              | (go_simp; done)
              | (go_simp; with_reducible rfl)
          try simp only [Act.put, List.setIfInBounds_toArray, List.set_cons_zero, List.set_cons_succ]
          refine wpAnyH_take (i := 8) (oi := ({ dst := some 70, op := Op.binOp BinOp.mul 3 (Operand.tmp 68) (Operand.tmp 69) 3, type := 3, pos := "ref.go:21", after := #[{ on := 6, ground := Ground.data }, { on := 7, ground := Ground.data }], guard := none } : Oper)) (v := ?_) rfl (by kernel_rfl) (by kernel_rfl) (by kernel_rfl) (fun _ _ _ h => h) (Or.inl ⟨by rfl, ?_⟩) (by assumption) ?_
          rotate_left
          · intro wS hSw
            first
              | (go_simp; done)
              | (go_simp; with_reducible rfl)
          try simp only [Act.put, List.setIfInBounds_toArray, List.set_cons_zero, List.set_cons_succ]
          refine wpAnyH_take (i := 9) (oi := ({ dst := some 71, op := Op.slice 22 (Operand.tmp 63) (some (Operand.tmp 66)) (some (Operand.tmp 70)) none, type := 22, pos := "ref.go:21", after := #[{ on := 1, ground := Ground.data }, { on := 4, ground := Ground.data }, { on := 8, ground := Ground.data }], guard := none } : Oper)) (v := ?_) rfl (by kernel_rfl) (by kernel_rfl) (by kernel_rfl) (fun _ _ _ h => h) (Or.inl ⟨by rfl, ?_⟩) (by assumption) ?_
          rotate_left
          · intro wS hSw
            first
              | (go_simp; done)
              | (go_simp; with_reducible rfl)
          try simp only [Act.put, List.setIfInBounds_toArray, List.set_cons_zero, List.set_cons_succ]
          refine wpAnyH_take (i := 10) (oi := ({ dst := some 72, op := Op.move (Operand.tmp 1), type := 23, pos := "ref.go:21", after := #[], guard := none } : Oper)) (v := ?_) rfl (by kernel_rfl) (by kernel_rfl) (by kernel_rfl) (fun _ _ _ h => h) (Or.inl ⟨by rfl, ?_⟩) (by assumption) ?_
          rotate_left
          · intro wS hSw
            first
              | (go_simp; done)
              | (go_simp; with_reducible rfl)
          try simp only [Act.put, List.setIfInBounds_toArray, List.set_cons_zero, List.set_cons_succ]
          refine wpAnyH_take (i := 11) (oi := ({ dst := some 73, op := Op.move (Operand.tmp 13), type := 3, pos := "ref.go:21", after := #[], guard := none } : Oper)) (v := ?_) rfl (by kernel_rfl) (by kernel_rfl) (by kernel_rfl) (fun _ _ _ h => h) (Or.inl ⟨by rfl, ?_⟩) (by assumption) ?_
          rotate_left
          · intro wS hSw
            first
              | (go_simp; done)
              | (go_simp; with_reducible rfl)
          try simp only [Act.put, List.setIfInBounds_toArray, List.set_cons_zero, List.set_cons_succ]
          refine wpAnyH_take (i := 12) (oi := ({ dst := some 74, op := Op.move (Operand.tmp 3), type := 3, pos := "ref.go:21", after := #[], guard := none } : Oper)) (v := ?_) rfl (by kernel_rfl) (by kernel_rfl) (by kernel_rfl) (fun _ _ _ h => h) (Or.inl ⟨by rfl, ?_⟩) (by assumption) ?_
          rotate_left
          · intro wS hSw
            first
              | (go_simp; done)
              | (go_simp; with_reducible rfl)
          try simp only [Act.put, List.setIfInBounds_toArray, List.set_cons_zero, List.set_cons_succ]
          refine wpAnyH_take (i := 13) (oi := ({ dst := some 75, op := Op.binOp BinOp.mul 3 (Operand.tmp 73) (Operand.tmp 74) 3, type := 3, pos := "ref.go:21", after := #[{ on := 11, ground := Ground.data }, { on := 12, ground := Ground.data }], guard := none } : Oper)) (v := ?_) rfl (by kernel_rfl) (by kernel_rfl) (by kernel_rfl) (fun _ _ _ h => h) (Or.inl ⟨by rfl, ?_⟩) (by assumption) ?_
          rotate_left
          · intro wS hSw
            first
              | (go_simp; done)
              | (go_simp; with_reducible rfl)
          try simp only [Act.put, List.setIfInBounds_toArray, List.set_cons_zero, List.set_cons_succ]
          refine wpAnyH_take (i := 14) (oi := ({ dst := some 76, op := Op.move (Operand.tmp 13), type := 3, pos := "ref.go:21", after := #[], guard := none } : Oper)) (v := ?_) rfl (by kernel_rfl) (by kernel_rfl) (by kernel_rfl) (fun _ _ _ h => h) (Or.inl ⟨by rfl, ?_⟩) (by assumption) ?_
          rotate_left
          · intro wS hSw
            first
              | (go_simp; done)
              | (go_simp; with_reducible rfl)
          try simp only [Act.put, List.setIfInBounds_toArray, List.set_cons_zero, List.set_cons_succ]
          refine wpAnyH_take (i := 15) (oi := ({ dst := some 77, op := Op.binOp BinOp.add 3 (Operand.tmp 76) (Operand.const (Value.int IntKind.i64 1)) 3, type := 3, pos := "ref.go:21", after := #[{ on := 14, ground := Ground.data }], guard := none } : Oper)) (v := ?_) rfl (by kernel_rfl) (by kernel_rfl) (by kernel_rfl) (fun _ _ _ h => h) (Or.inl ⟨by rfl, ?_⟩) (by assumption) ?_
          rotate_left
          · intro wS hSw
            first
              | (go_simp; done)
              | (go_simp; with_reducible rfl)
          try simp only [Act.put, List.setIfInBounds_toArray, List.set_cons_zero, List.set_cons_succ]
          refine wpAnyH_take (i := 16) (oi := ({ dst := some 78, op := Op.move (Operand.tmp 3), type := 3, pos := "ref.go:21", after := #[], guard := none } : Oper)) (v := ?_) rfl (by kernel_rfl) (by kernel_rfl) (by kernel_rfl) (fun _ _ _ h => h) (Or.inl ⟨by rfl, ?_⟩) (by assumption) ?_
          rotate_left
          · intro wS hSw
            first
              | (go_simp; done)
              | (go_simp; with_reducible rfl)
          try simp only [Act.put, List.setIfInBounds_toArray, List.set_cons_zero, List.set_cons_succ]
          refine wpAnyH_take (i := 17) (oi := ({ dst := some 79, op := Op.binOp BinOp.mul 3 (Operand.tmp 77) (Operand.tmp 78) 3, type := 3, pos := "ref.go:21", after := #[{ on := 15, ground := Ground.data }, { on := 16, ground := Ground.data }], guard := none } : Oper)) (v := ?_) rfl (by kernel_rfl) (by kernel_rfl) (by kernel_rfl) (fun _ _ _ h => h) (Or.inl ⟨by rfl, ?_⟩) (by assumption) ?_
          rotate_left
          · intro wS hSw
            first
              | (go_simp; done)
              | (go_simp; with_reducible rfl)
          try simp only [Act.put, List.setIfInBounds_toArray, List.set_cons_zero, List.set_cons_succ]
          refine wpAnyH_take (i := 18) (oi := ({ dst := some 80, op := Op.slice 23 (Operand.tmp 72) (some (Operand.tmp 75)) (some (Operand.tmp 79)) none, type := 23, pos := "ref.go:21", after := #[{ on := 10, ground := Ground.data }, { on := 13, ground := Ground.data }, { on := 17, ground := Ground.data }], guard := none } : Oper)) (v := ?_) rfl (by kernel_rfl) (by kernel_rfl) (by kernel_rfl) (fun _ _ _ h => h) (Or.inl ⟨by rfl, ?_⟩) (by assumption) ?_
          rotate_left
          · intro wS hSw
            first
              | (go_simp; done)
              | (go_simp; with_reducible rfl)
          try simp only [Act.put, List.setIfInBounds_toArray, List.set_cons_zero, List.set_cons_succ]
          refine wpAnyH_ready (rs := [19]) (by kernel_rfl) (by simp) ?_
          refine AllReadyH.cons (o := ({ dst := some 81, op := Op.call { callee := Callee.value (Operand.func 11), args := #[Operand.tmp 71, Operand.tmp 80], argTypes := #[22, 23] }, type := 3, pos := "ref.go:21", after := #[{ on := 9, ground := Ground.data }, { on := 18, ground := Ground.data }], guard := none } : Oper)) rfl (fun K hK => ?_) (AllReadyH.nil)
          go_simp
          go_at_call 11
          refine (refDot_to (some ⟨b1, o1 + A1, none⟩) (some ⟨b2, o2 + B1, none⟩) ((xs.drop A1).take m) ((ys.drop B1).take m) m m (c1 - A1) (c2 - B1) m (cut_len HX.out (by omega)) (cut_len HY.out (by omega)) (by omega) (by omega) (cut_I16 HXB.out _ _) (cut_I8 HYB.out _ _) _ (cut_rd (HR.out.below HB1.out).drew A1 m) (cut_rd (HS.out.below HB1.out).drew B1 m) D HD.out).mono ?_
          rintro e w4 ⟨rfl, nq, rfl⟩
          have HO2 : Hid ((wr.drew.drewN nq).ownsRow w.heap.size 21 1 u11 I2 (I32v (rowL F I2))) := Lib.hid (Kit.own_below HO1.out (Kit.below_drewN (Below.refl wr.heap.size wr).drew nq))
          have HB2 : Hid (Below w.heap.size w (wr.drew.drewN nq)) := Lib.hid (Kit.below_drewN HB1.out.drew nq)
          generalize wr.drew.drewN nq = W1 at HO2 HB2 ⊢
          clear HO1 HB1
          dsimp only
          refine hK.out _ _ ?_ (fun hHeld => ?_)
          · trivial
          clear hK K
          try simp only [Act.put, List.setIfInBounds_toArray, List.set_cons_zero, List.set_cons_succ]
          refine wpAnyH_take (i := 20) (oi := ({ dst := some 82, op := Op.convert 3 21 (Operand.tmp 81), type := 21, pos := "ref.go:21", after := #[{ on := 19, ground := Ground.data }], guard := none } : Oper)) (v := ?_) rfl (by kernel_rfl) (by kernel_rfl) (by kernel_rfl) (fun _ _ _ h => h) (Or.inl ⟨by rfl, ?_⟩) (by assumption) ?_
          rotate_left
          · intro wS hSw
            first
              | (go_simp; done)
              | (go_simp; with_reducible rfl)
          try simp only [Act.put, List.setIfInBounds_toArray, List.set_cons_zero, List.set_cons_succ]
          refine wpAnyH_ready (rs := [21]) (by kernel_rfl) (by simp) ?_
          refine AllReadyH.cons (o := ({ dst := some 83, op := Op.buildSlice 26 1 #[(0, Operand.tmp 82)], type := 26, pos := "ref.go:21", after := #[{ on := 20, ground := Ground.data }], guard := none } : Oper)) rfl (fun K hK => ?_) (AllReadyH.nil)
          go_simp
          refine hK.out _ _ ?_ (fun hHeld => ?_)
          · trivial
          clear hK K
          try simp only [Act.put, List.setIfInBounds_toArray, List.set_cons_zero, List.set_cons_succ]
          refine wpAnyH_ready (rs := [22]) (by kernel_rfl) (by simp) ?_
          refine AllReadyH.cons (o := ({ dst := some 84, op := Op.call { callee := Callee.builtin Builtin.append, args := #[Operand.tmp 62, Operand.tmp 83], argTypes := #[26, 26] }, type := 26, pos := "ref.go:21", after := #[{ on := 0, ground := Ground.data }, { on := 21, ground := Ground.data }, { on := 19, ground := Ground.chain }], guard := none } : Oper)) rfl (fun K hK => ?_) (AllReadyH.nil)
          have hz1 : w.heap.size ≤ W1.heap.size := HB2.out.size
          refine Kit.step_append_rd _ rfl (.tmp 62) (.tmp 83) _ rfl w.heap.size 21 i0 (.int .i32 0) 1 4 Try.underlying26 hi0 hi1 hi2 hi3 rfl (by decide) u11 I2 (I32v (rowL F I2)) rfl (Kit.own_below HO2.out ((Below.refl _ _).alloc (Nat.le_refl _) _)) (W1.heap.size + 1) (some ⟨W1.heap.size, 0, none⟩) 1 1 [.int .i32 fv] rfl rfl (Kit.Rd.new _ _ _ (by omega)) (Kit.ints_one .i32 [fv]) (by unfold maxLen; omega) (by omega) (by simp; omega) ?_
          intro v5 w5 hown5 hg5 hat5
          have HO3 : Hid (w5.ownsRow w.heap.size 21 1 v5 (I2 + 1) (I32v (rowL F (I2 + 1)))) := Lib.hid (by rw [rowL_succ, HFW.out]; simpa [I32v] using hown5)
          have HB3 : Hid (Below w.heap.size w w5) := Lib.hid ((HB2.out.alloc hz1 _).grown hg5 (by simp; omega) (Kit.own_block_ge HO2.out))
          clear hown5 hg5 hat5 HO2 HB2
          dsimp only
          refine hK.out _ _ ?_ (fun hHeld => ?_)
          · trivial
          clear hK K
          try simp only [Act.put, List.setIfInBounds_toArray, List.set_cons_zero, List.set_cons_succ]
          refine wpAnyH_take (i := 23) (oi := ({ dst := some 11, op := Op.assign (Operand.tmp 84), type := 26, pos := "ref.go:21", after := #[{ on := 22, ground := Ground.data }, { on := 22, ground := Ground.chain }, { on := 0, ground := Ground.phase }, { on := 1, ground := Ground.phase }, { on := 2, ground := Ground.phase }, { on := 3, ground := Ground.phase }, { on := 4, ground := Ground.phase }, { on := 5, ground := Ground.phase }, { on := 6, ground := Ground.phase }, { on := 7, ground := Ground.phase }, { on := 8, ground := Ground.phase }, { on := 9, ground := Ground.phase }, { on := 10, ground := Ground.phase }, { on := 11, ground := Ground.phase }, { on := 12, ground := Ground.phase }, { on := 13, ground := Ground.phase }, { on := 14, ground := Ground.phase }, { on := 15, ground := Ground.phase }, { on := 16, ground := Ground.phase }, { on := 17, ground := Ground.phase }, { on := 18, ground := Ground.phase }, { on := 19, ground := Ground.phase }, { on := 20, ground := Ground.phase }, { on := 21, ground := Ground.phase }, { on := 22, ground := Ground.phase }], guard := none } : Oper)) (v := ?_) rfl (by kernel_rfl) (by kernel_rfl) (by kernel_rfl) (fun _ _ _ h => h) (Or.inl ⟨by rfl, ?_⟩) (by assumption) ?_
          rotate_left
          · intro wS hSw
            first
              | (go_simp; done)
              | (go_simp; with_reducible rfl)
          try simp only [Act.put, List.setIfInBounds_toArray, List.set_cons_zero, List.set_cons_succ]
          refine wpAnyH_done (by kernel_rfl) ?_ _
          rw [← HI2.out, Nat.add_assoc, HJ.out, ← HI1.out] at HO3
          go_wp2_with fail
          go_roundw
          case rel => exact ⟨j', by have := HJ.out; omega, by have := HJ.out; go_num, HO3, HB3⟩
          case measure => have := HJ.out; simp [intOf]; omega
        · obtain rfl : j = c := by omega
          rw [show i * j + j = (i + 1) * j by rw [Nat.add_mul, Nat.one_mul]] at HO1
          go_wp2_with fail
          go_roundw
          case rel => exact ⟨i + 1, by omega, by go_num, HO1, HB1⟩
          case measure => simp [intOf]; omega
    · obtain rfl : i = r := by omega
      rw [HNN.out] at HO1
      go_wp2_with fail
      go_ret
      exact ⟨_, rfl, HO1.out, HB1.out⟩
end Go.Proofs.Ytbkbflhjfmkcoaa.CGemm
