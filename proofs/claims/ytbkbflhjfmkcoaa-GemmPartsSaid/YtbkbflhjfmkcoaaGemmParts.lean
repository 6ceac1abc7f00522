/- GemmParts: what is multiplied in two parts, and added, is the whole; the call returns true and leaves its arguments as they were. No condition. -/
import Derived.Test.YtbkbflhjfmkcoaaGemmPart
import Derived.Deep.CutRange
namespace Go.Proofs.Ytbkbflhjfmkcoaa.lawGemmParts
open Go Go.ChangeShapes Go.WideShapes Go.ChangeAt Go.RowKit
open Plain CGemm
set_option linter.unusedVariables false

theorem info_i16 : (Try.prog.info? 35).map (fun i => (i.zero, i.size, i.bytes)) = some (some (.int .i16 0), 1, 2) := by kernel_rfl
def sumF (F G : Nat → Int) (i : Nat) : Int := IntKind.i32.wrap (F i + G i)
set_option maxRecDepth 100000 in
set_option maxHeartbeats 8000000 in
theorem walk_yes {w : World} (A : Option Addr) (xs : List Int) (n1 c1 : Nat) (hn1 : xs.length = n1) (hc1 : n1 ≤ c1) (hm1 : c1 ≤ maxLen) (hxb : I16b xs) (hr1 : Kit.Rd w w.heap.size A (xs.map (.int .i16)))
    (B : Option Addr) (ys : List Int) (n2 c2 : Nat) (hn2 : ys.length = n2) (hc2 : n2 ≤ c2) (hm2 : c2 ≤ maxLen) (hyb : I8b ys) (hr2 : Kit.Rd w w.heap.size B (ys.map (.int .i8)))
    (r0 m0 k0 t0 n m k at_ : Nat) (b1 : r0 ≤ 255) (b2 : m0 ≤ 255) (b3 : k0 ≤ 255) (b4 : t0 ≤ 255) (hn : r0 % 6 + 1 = n) (hm : m0 % 20 + 1 = m) (hk : k0 % 6 + 1 = k) (hat : t0 % m = at_) (hl1 : n * m ≤ n1) (hl2 : k * m ≤ n2) :
    Calls Try.prog 5 #[.slice A n1 c1, .slice B n2 c2, .int .u8 (r0 : Int), .int .u8 (m0 : Int), .int .u8 (k0 : Int), .int .u8 (t0 : Int)] w fun e w' => e = .returned (.bool true) ∧ Below w.heap.size w w' := by
  obtain ⟨p1, hp1⟩ : ∃ p, r0 % 6 = p := ⟨_, rfl⟩
  obtain ⟨p2, hp2⟩ : ∃ p, m0 % 20 = p := ⟨_, rfl⟩
  obtain ⟨p3, hp3⟩ : ∃ p, k0 % 6 = p := ⟨_, rfl⟩
  have hm0 : 0 < m := by omega
  have hatm : at_ < m := by rw [← hat]; exact Nat.mod_lt _ hm0
  have hn6 : n ≤ 6 := by omega
  have hm20 : m ≤ 20 := by omega
  have hk6 : k ≤ 6 := by omega
  have hk0 : 0 < k := by omega
  have hn0 : 0 < n := by omega
  have d1 : (r0 : Int).tmod 6 = (p1 : Int) := by rw [Int.tmod_eq_emod_of_nonneg (by omega)]; omega
  have d2 : (m0 : Int).tmod 20 = (p2 : Int) := by rw [Int.tmod_eq_emod_of_nonneg (by omega)]; omega
  have d3 : (k0 : Int).tmod 6 = (p3 : Int) := by rw [Int.tmod_eq_emod_of_nonneg (by omega)]; omega
  have d4 : (t0 : Int).tmod (m : Int) = (at_ : Int) := by rw [Int.tmod_eq_emod_of_nonneg (by omega), ← hat]; simp
  have f1 : (r0 : Int) % 6 = (p1 : Int) := by omega
  have f2 : (m0 : Int) % 20 = (p2 : Int) := by omega
  have f3 : (k0 : Int) % 6 = (p3 : Int) := by omega
  have f4 : (t0 : Int) % (m : Int) = (at_ : Int) := by rw [← hat]; simp
  have e1 : IntKind.u8.wrap (p1 : Int) = (p1 : Int) := by rw [IntKind.wrap_u8]; omega
  have e2 : IntKind.u8.wrap (p2 : Int) = (p2 : Int) := by rw [IntKind.wrap_u8]; omega
  have e3 : IntKind.u8.wrap (p3 : Int) = (p3 : Int) := by rw [IntKind.wrap_u8]; omega
  have i1 : IntKind.i64.wrap (p1 : Int) = (p1 : Int) := IntWalk.i64_in _ (by omega)
  have i2 : IntKind.i64.wrap (p2 : Int) = (p2 : Int) := IntWalk.i64_in _ (by omega)
  have i3 : IntKind.i64.wrap (p3 : Int) = (p3 : Int) := IntWalk.i64_in _ (by omega)
  have i4 : IntKind.i64.wrap (t0 : Int) = (t0 : Int) := IntWalk.i64_in _ (by omega)
  have i5 : IntKind.i64.wrap (at_ : Int) = (at_ : Int) := IntWalk.i64_in _ (by omega)
  have j1 : IntKind.i64.wrap ((p1 : Int) + 1) = (n : Int) := by rw [IntWalk.i64_in _ (by omega)]; omega
  have j2 : IntKind.i64.wrap ((p2 : Int) + 1) = (m : Int) := by rw [IntWalk.i64_in _ (by omega)]; omega
  have j3 : IntKind.i64.wrap ((p3 : Int) + 1) = (k : Int) := by rw [IntWalk.i64_in _ (by omega)]; omega
  obtain ⟨N1, hN1⟩ : ∃ N, n * m = N := ⟨_, rfl⟩
  obtain ⟨N2, hN2⟩ : ∃ N, k * m = N := ⟨_, rfl⟩
  obtain ⟨N, hN⟩ : ∃ N, n * k = N := ⟨_, rfl⟩
  have hN1b : N1 ≤ 120 := by rw [← hN1]; exact Nat.le_trans (Nat.mul_le_mul hn6 hm20) (by omega)
  have hN2b : N2 ≤ 120 := by rw [← hN2]; exact Nat.le_trans (Nat.mul_le_mul hk6 hm20) (by omega)
  have hNb : N ≤ 36 := by rw [← hN]; exact Nat.le_trans (Nat.mul_le_mul hn6 hk6) (by omega)
  have hN10 : 0 < N1 := by rw [← hN1]; exact Nat.mul_pos hn0 hm0
  have hN20 : 0 < N2 := by rw [← hN2]; exact Nat.mul_pos hk0 hm0
  rw [hN1] at hl1
  rw [hN2] at hl2
  have v1 : IntKind.i64.wrap ((n : Int) * (m : Int)) = (N1 : Int) := by rw [← Int.natCast_mul, hN1]; exact IntWalk.i64_in _ (by omega)
  have v2 : IntKind.i64.wrap ((k : Int) * (m : Int)) = (N2 : Int) := by rw [← Int.natCast_mul, hN2]; exact IntWalk.i64_in _ (by omega)
  have v3 : IntKind.i64.wrap ((n : Int) * (k : Int)) = (N : Int) := by rw [← Int.natCast_mul, hN]; exact IntWalk.i64_in _ (by omega)
  have hcm1 : c1 ≤ 9223372036854775807 := by unfold maxLen at hm1; omega
  have hcm2 : c2 ≤ 9223372036854775807 := by unfold maxLen at hm2; omega
  -- the pieces that are looked at
  obtain ⟨X, hX⟩ : ∃ X, xs.take N1 = X := ⟨_, rfl⟩
  obtain ⟨Y, hY⟩ : ∃ Y, ys.take N2 = Y := ⟨_, rfl⟩
  have hXl : X.length = N1 := by rw [← hX]; simp; omega
  have hYl : Y.length = N2 := by rw [← hY]; simp; omega
  have hrX : Kit.Rd w w.heap.size A (X.map (.int .i16)) := by rw [← hX, List.map_take]; exact hr1.take _
  have hrY : Kit.Rd w w.heap.size B (Y.map (.int .i8)) := by rw [← hY, List.map_take]; exact hr2.take _
  have hXb : I16b X := by
    have := cut_I16 hxb 0 N1
    rwa [List.drop_zero, hX] at this
  have hYb : I8b Y := by
    have := cut_I8 hyb 0 N2
    rwa [List.drop_zero, hY] at this
  clear hr1 hr2 hxb hyb hX hY
  obtain ⟨bX, oX, rfl, hbX, -⟩ := ints_getD hrX (j := 0) (by omega)
  obtain ⟨bY, oY, rfl, hbY, -⟩ := ints_getD hrY (j := 0) (by omega)
  have g1 : (N1 : Int) ≤ (n1 : Int) := by omega
  have g2 : (N2 : Int) ≤ (n2 : Int) := by omega
  have g3 : (0 : Int) ≤ (N1 : Int) := by omega
  have g4 : (0 : Int) ≤ (N2 : Int) := by omega
  have g5 : (N1 : Int) ≤ (c1 : Int) := by omega
  have g6 : (N2 : Int) ≤ (c2 : Int) := by omega
  have g7 : ¬ n1 < N1 := by omega
  have g8 : ¬ n2 < N2 := by omega
  have g9 : ¬ m = 0 := by omega
  have HXL := Lib.hid hXl
  have HYL := Lib.hid hYl
  have HRX := Lib.hid hrX
  have HRY := Lib.hid hrY
  have HXB := Lib.hid hXb
  have HYB := Lib.hid hYb
  have HN1 := Lib.hid hN1
  have HN2 := Lib.hid hN2
  have HN := Lib.hid hN
  have HM1 := Lib.hid hm1
  have HM2 := Lib.hid hm2
  have hh1 : holdsB (N1 : Int) (n : Int) (m : Int) = true := by simp only [holdsB, decide_eq_true_eq]; exact ⟨by omega, by omega, by omega, by omega, by rw [← hN1]; simp⟩
  have hh2 : holdsB (N2 : Int) (k : Int) (m : Int) = true := by simp only [holdsB, decide_eq_true_eq]; exact ⟨by omega, by omega, by omega, by omega, by rw [← hN2]; simp⟩
  have HH1 := Lib.hid hh1
  have HH2 := Lib.hid hh2
  clear hXl hYl hrX hrY hXb hYb hN1 hN2 hN hh1 hh2 hn hm hk hat hp1 hp2 hp3 hm1 hm2 hn1 hn2
  go_enter Try.func5, Try.ntmps5
  go_wp2_with fail
  go_quiet (fail)
  go_wp2_with fail
  go_at_call 8
  obtain ⟨F, hF⟩ : ∃ F, mulF X Y m k = F := ⟨_, rfl⟩
  refine (mul_yes _ _ X Y N1 N2 c1 c2 n m k N HXL.out HYL.out HH1.out HH2.out HN.out (by omega) (by omega) (by omega) HM1.out HM2.out HXB.out HYB.out F hF.symm _ (HRX.out.drewN nq) (HRY.out.drewN nq)).mono ?_
  rintro e W0 ⟨v0, rfl, ho0, hb0⟩
  obtain ⟨A0, q0, rfl, -, -, hrd0⟩ := Kit.own_rd ho0
  have R0 := Lib.hid hrd0
  have RX0 : Hid (Kit.Rd W0 W0.heap.size _ _) := Lib.hid (((HRX.out.drewN nq).below hb0).more hb0.size)
  have RY0 : Hid (Kit.Rd W0 W0.heap.size _ _) := Lib.hid (((HRY.out.drewN nq).below hb0).more hb0.size)
  have HB0 : Hid (Below w.heap.size w W0) := Lib.hid ((Kit.below_drewN (Below.refl _ w) nq).trans hb0)
  have HF := Lib.hid hF
  obtain ⟨d, hd⟩ : ∃ d, m - at_ = d := ⟨_, rfl⟩
  have hdw : IntKind.i64.wrap ((m : Int) - (at_ : Int)) = (d : Int) := by rw [IntWalk.i64_in _ (by omega)]; omega
  have HD := Lib.hid hd
  have hd0 : 0 < d := by omega
  have hd20 : d ≤ 20 := by omega
  have had : at_ + d = m := by omega
  clear ho0 hb0 hrd0 HRX HRY hF hd d1 d2 d3 d4 f1 f2 f3 f4 e1 e2 e3 i1 i2 i3 i4 i5 j1 j2 j3 v1 v2
  obtain ⟨i0, hi0, hi1, hi2, hi3⟩ := info_parts info_i16
  go_wp2_with fail
  go_loopw [18, 19, 22] (fun u v i wr => ∃ (l : Nat) (PA QA : List Int), l ≤ n ∧ i = .int .i64 l ∧ Hid (wr.ownsRow W0.heap.size 35 1 u (l * at_) (I16v PA)) ∧ Hid (wr.ownsRow W0.heap.size 35 1 v (l * d) (I16v QA)) ∧ Hid (Parts X m 0 at_ l PA) ∧ Hid (Parts X m at_ d l QA) ∧ Hid (Apart u v) ∧ Hid (Below W0.heap.size W0 wr)) (fun _ _ i _ => n - (intOf i).toNat)
  case atStart => exact ⟨0, [], [], Nat.zero_le _, rfl, Lib.hid ⟨by simp [I16v], .inl ⟨rfl, by simp⟩⟩, Lib.hid ⟨by simp [I16v], .inl ⟨rfl, by simp⟩⟩, Lib.hid (Parts.zero _ _ _ _), Lib.hid (Parts.zero _ _ _ _), Lib.hid (fun g h => by cases h), Lib.hid (Below.refl _ _)⟩
  case round =>
    obtain ⟨l, PA, QA, hl, rfl, HU, HV, HPP, HQQ, HAP, HBL⟩ := hrel
    by_cases hlt : l < n
    · have hlI : (l : Int) < (n : Int) := by omega
      obtain ⟨L1, hL1⟩ : ∃ L, l * m = L := ⟨_, rfl⟩
      obtain ⟨L2, hL2⟩ : ∃ L, L1 + at_ = L := ⟨_, rfl⟩
      obtain ⟨L3, hL3⟩ : ∃ L, L1 + m = L := ⟨_, rfl⟩
      obtain ⟨l', hl'⟩ : ∃ l', l + 1 = l' := ⟨_, rfl⟩
      have hL : L3 ≤ N1 := by rw [← HN1.out, ← hL3, ← hL1]; have := Nat.mul_le_mul_right m (show l + 1 ≤ n by omega); rwa [Nat.add_mul, Nat.one_mul] at this
      have w1 : IntKind.i64.wrap ((l : Int) * (m : Int)) = (L1 : Int) := by rw [← Int.natCast_mul, hL1]; exact IntWalk.i64_in _ (by omega)
      have w2 : IntKind.i64.wrap ((L1 : Int) + (at_ : Int)) = (L2 : Int) := by rw [← Int.natCast_add, hL2]; exact IntWalk.i64_in _ (by omega)
      have w3 : IntKind.i64.wrap ((l : Int) + 1) = (l' : Int) := by rw [IntWalk.i64_in _ (by omega)]; omega
      have w4 : IntKind.i64.wrap ((l' : Int) * (m : Int)) = (L3 : Int) := by rw [← Int.natCast_mul, ← hl', Nat.add_mul, Nat.one_mul, hL1, hL3]; exact IntWalk.i64_in _ (by omega)
      have s1 : (0 : Int) ≤ (L1 : Int) := by omega
      have s2 : (L1 : Int) ≤ (L2 : Int) := by omega
      have s3 : (L2 : Int) ≤ (c1 : Int) := by omega
      have s4 : (0 : Int) ≤ (L2 : Int) := by omega
      have s5 : (L2 : Int) ≤ (L3 : Int) := by omega
      have s6 : (L3 : Int) ≤ (c1 : Int) := by omega
      have s7 : ¬ c1 = L1 := by omega
      have s8 : ¬ c1 = L2 := by omega
      have sA : L2 - L1 = at_ := by omega
      have sB : L3 - L2 = d := by omega
      have hlm1 : l * at_ ≤ 120 := Nat.le_trans (Nat.mul_le_mul (show l ≤ 6 by omega) (show at_ ≤ 20 by omega)) (by omega)
      have hlm2 : l * d ≤ 120 := Nat.le_trans (Nat.mul_le_mul (show l ≤ 6 by omega) (show d ≤ 20 by omega)) (by omega)
      have hPn := HPP.out.succ (p := L1) (by omega) (show L1 + at_ ≤ X.length by have := HXL.out; omega)
      have hQn := HQQ.out.succ (p := L2) (by omega) (show L2 + d ≤ X.length by have := HXL.out; omega)
      have HPN := Lib.hid hPn
      have HQN := Lib.hid hQn
      have HL' := Lib.hid hl'
      clear hL1 hL2 hL3 hl' hPn hQn
      go_wp2_with fail
      refine wp_region_held_drew (S := fun _ => True) (by kernel_rfl) trivial (fun hHeld => ?_)
      refine wpAnyH_take (i := 0) (oi := ({ dst := some 79, op := Op.move (Operand.tmp 18), type := 22, pos := "law.go:49", after := #[], guard := none } : Oper)) (v := ?_) rfl (by kernel_rfl) (by kernel_rfl) (by kernel_rfl) (fun _ _ _ h => h) (Or.inl ⟨by rfl, ?_⟩) (by assumption) ?_
      rotate_left
      · intro wS hSw
        first
          | (go_simp; done)
          | (go_simp; with_reducible rfl)
      try simp only [Act.put, List.setIfInBounds_toArray, List.set_cons_zero, List.set_cons_succ]
      refine wpAnyH_take (i := 1) (oi := ({ dst := some 80, op := Op.move (Operand.tmp 0), type := 22, pos := "law.go:49", after := #[], guard := none } : Oper)) (v := ?_) rfl (by kernel_rfl) (by kernel_rfl) (by kernel_rfl) (fun _ _ _ h => h) (Or.inl ⟨by rfl, ?_⟩) (by assumption) ?_
      rotate_left
      · intro wS hSw
        first
          | (go_simp; done)
          | (go_simp; with_reducible rfl)
      try simp only [Act.put, List.setIfInBounds_toArray, List.set_cons_zero, List.set_cons_succ]
      refine wpAnyH_take (i := 2) (oi := ({ dst := some 81, op := Op.move (Operand.tmp 22), type := 3, pos := "law.go:49", after := #[], guard := none } : Oper)) (v := ?_) rfl (by kernel_rfl) (by kernel_rfl) (by kernel_rfl) (fun _ _ _ h => h) (Or.inl ⟨by rfl, ?_⟩) (by assumption) ?_
      rotate_left
      · intro wS hSw
        first
          | (go_simp; done)
          | (go_simp; with_reducible rfl)
      try simp only [Act.put, List.setIfInBounds_toArray, List.set_cons_zero, List.set_cons_succ]
      refine wpAnyH_take (i := 3) (oi := ({ dst := some 82, op := Op.move (Operand.tmp 14), type := 3, pos := "law.go:49", after := #[], guard := none } : Oper)) (v := ?_) rfl (by kernel_rfl) (by kernel_rfl) (by kernel_rfl) (fun _ _ _ h => h) (Or.inl ⟨by rfl, ?_⟩) (by assumption) ?_
      rotate_left
      · intro wS hSw
        first
          | (go_simp; done)
          | (go_simp; with_reducible rfl)
      try simp only [Act.put, List.setIfInBounds_toArray, List.set_cons_zero, List.set_cons_succ]
      refine wpAnyH_take (i := 4) (oi := ({ dst := some 83, op := Op.binOp BinOp.mul 3 (Operand.tmp 81) (Operand.tmp 82) 3, type := 3, pos := "law.go:49", after := #[{ on := 2, ground := Ground.data }, { on := 3, ground := Ground.data }], guard := none } : Oper)) (v := ?_) rfl (by kernel_rfl) (by kernel_rfl) (by kernel_rfl) (fun _ _ _ h => h) (Or.inl ⟨by rfl, ?_⟩) (by assumption) ?_
      rotate_left
      · intro wS hSw
        first
          | (go_simp; done)
          | (go_simp; with_reducible rfl)
      try simp only [Act.put, List.setIfInBounds_toArray, List.set_cons_zero, List.set_cons_succ]
      refine wpAnyH_take (i := 5) (oi := ({ dst := some 84, op := Op.move (Operand.tmp 22), type := 3, pos := "law.go:49", after := #[], guard := none } : Oper)) (v := ?_) rfl (by kernel_rfl) (by kernel_rfl) (by kernel_rfl) (fun _ _ _ h => h) (Or.inl ⟨by rfl, ?_⟩) (by assumption) ?_
      rotate_left
      · intro wS hSw
        first
          | (go_simp; done)
          | (go_simp; with_reducible rfl)
      try simp only [Act.put, List.setIfInBounds_toArray, List.set_cons_zero, List.set_cons_succ]
      refine wpAnyH_take (i := 6) (oi := ({ dst := some 85, op := Op.move (Operand.tmp 14), type := 3, pos := "law.go:49", after := #[], guard := none } : Oper)) (v := ?_) rfl (by kernel_rfl) (by kernel_rfl) (by kernel_rfl) (fun _ _ _ h => h) (Or.inl ⟨by rfl, ?_⟩) (by assumption) ?_
      rotate_left
      · intro wS hSw
        first
          | (go_simp; done)
          | (go_simp; with_reducible rfl)
      try simp only [Act.put, List.setIfInBounds_toArray, List.set_cons_zero, List.set_cons_succ]
      refine wpAnyH_take (i := 7) (oi := ({ dst := some 86, op := Op.binOp BinOp.mul 3 (Operand.tmp 84) (Operand.tmp 85) 3, type := 3, pos := "law.go:49", after := #[{ on := 5, ground := Ground.data }, { on := 6, ground := Ground.data }], guard := none } : Oper)) (v := ?_) rfl (by kernel_rfl) (by kernel_rfl) (by kernel_rfl) (fun _ _ _ h => h) (Or.inl ⟨by rfl, ?_⟩) (by assumption) ?_
      rotate_left
      · intro wS hSw
        first
          | (go_simp; done)
          | (go_simp; with_reducible rfl)
      try simp only [Act.put, List.setIfInBounds_toArray, List.set_cons_zero, List.set_cons_succ]
      refine wpAnyH_take (i := 8) (oi := ({ dst := some 87, op := Op.move (Operand.tmp 16), type := 3, pos := "law.go:49", after := #[], guard := none } : Oper)) (v := ?_) rfl (by kernel_rfl) (by kernel_rfl) (by kernel_rfl) (fun _ _ _ h => h) (Or.inl ⟨by rfl, ?_⟩) (by assumption) ?_
      rotate_left
      · intro wS hSw
        first
          | (go_simp; done)
          | (go_simp; with_reducible rfl)
      try simp only [Act.put, List.setIfInBounds_toArray, List.set_cons_zero, List.set_cons_succ]
      refine wpAnyH_take (i := 9) (oi := ({ dst := some 88, op := Op.binOp BinOp.add 3 (Operand.tmp 86) (Operand.tmp 87) 3, type := 3, pos := "law.go:49", after := #[{ on := 7, ground := Ground.data }, { on := 8, ground := Ground.data }], guard := none } : Oper)) (v := ?_) rfl (by kernel_rfl) (by kernel_rfl) (by kernel_rfl) (fun _ _ _ h => h) (Or.inl ⟨by rfl, ?_⟩) (by assumption) ?_
      rotate_left
      · intro wS hSw
        first
          | (go_simp; done)
          | (go_simp; with_reducible rfl)
      try simp only [Act.put, List.setIfInBounds_toArray, List.set_cons_zero, List.set_cons_succ]
      refine wpAnyH_take (i := 10) (oi := ({ dst := some 89, op := Op.slice 22 (Operand.tmp 80) (some (Operand.tmp 83)) (some (Operand.tmp 88)) none, type := 22, pos := "law.go:49", after := #[{ on := 1, ground := Ground.data }, { on := 4, ground := Ground.data }, { on := 9, ground := Ground.data }], guard := none } : Oper)) (v := ?_) rfl (by kernel_rfl) (by kernel_rfl) (by kernel_rfl) (fun _ _ _ h => h) (Or.inl ⟨by rfl, ?_⟩) (by assumption) ?_
      rotate_left
      · intro wS hSw
        first
          | (go_simp; done)
          | (go_simp; with_reducible rfl)
      try simp only [Act.put, List.setIfInBounds_toArray, List.set_cons_zero, List.set_cons_succ]
      refine wpAnyH_take (i := 12) (oi := ({ dst := some 91, op := Op.move (Operand.tmp 19), type := 22, pos := "law.go:49", after := #[], guard := none } : Oper)) (v := ?_) rfl (by kernel_rfl) (by kernel_rfl) (by kernel_rfl) (fun _ _ _ h => h) (Or.inl ⟨by rfl, ?_⟩) (by assumption) ?_
      rotate_left
      · intro wS hSw
        first
          | (go_simp; done)
          | (go_simp; with_reducible rfl)
      try simp only [Act.put, List.setIfInBounds_toArray, List.set_cons_zero, List.set_cons_succ]
      refine wpAnyH_take (i := 13) (oi := ({ dst := some 92, op := Op.move (Operand.tmp 0), type := 22, pos := "law.go:49", after := #[], guard := none } : Oper)) (v := ?_) rfl (by kernel_rfl) (by kernel_rfl) (by kernel_rfl) (fun _ _ _ h => h) (Or.inl ⟨by rfl, ?_⟩) (by assumption) ?_
      rotate_left
      · intro wS hSw
        first
          | (go_simp; done)
          | (go_simp; with_reducible rfl)
      try simp only [Act.put, List.setIfInBounds_toArray, List.set_cons_zero, List.set_cons_succ]
      refine wpAnyH_take (i := 14) (oi := ({ dst := some 93, op := Op.move (Operand.tmp 22), type := 3, pos := "law.go:49", after := #[], guard := none } : Oper)) (v := ?_) rfl (by kernel_rfl) (by kernel_rfl) (by kernel_rfl) (fun _ _ _ h => h) (Or.inl ⟨by rfl, ?_⟩) (by assumption) ?_
      rotate_left
      · intro wS hSw
        first
          | (go_simp; done)
          | (go_simp; with_reducible rfl)
      try simp only [Act.put, List.setIfInBounds_toArray, List.set_cons_zero, List.set_cons_succ]
      refine wpAnyH_take (i := 15) (oi := ({ dst := some 94, op := Op.move (Operand.tmp 14), type := 3, pos := "law.go:49", after := #[], guard := none } : Oper)) (v := ?_) rfl (by kernel_rfl) (by kernel_rfl) (by kernel_rfl) (fun _ _ _ h => h) (Or.inl ⟨by rfl, ?_⟩) (by assumption) ?_
      rotate_left
      · intro wS hSw
        first
          | (go_simp; done)
          | (go_simp; with_reducible rfl)
      try simp only [Act.put, List.setIfInBounds_toArray, List.set_cons_zero, List.set_cons_succ]
      refine wpAnyH_take (i := 16) (oi := ({ dst := some 95, op := Op.binOp BinOp.mul 3 (Operand.tmp 93) (Operand.tmp 94) 3, type := 3, pos := "law.go:49", after := #[{ on := 14, ground := Ground.data }, { on := 15, ground := Ground.data }], guard := none } : Oper)) (v := ?_) rfl (by kernel_rfl) (by kernel_rfl) (by kernel_rfl) (fun _ _ _ h => h) (Or.inl ⟨by rfl, ?_⟩) (by assumption) ?_
      rotate_left
      · intro wS hSw
        first
          | (go_simp; done)
          | (go_simp; with_reducible rfl)
      try simp only [Act.put, List.setIfInBounds_toArray, List.set_cons_zero, List.set_cons_succ]
      refine wpAnyH_take (i := 17) (oi := ({ dst := some 96, op := Op.move (Operand.tmp 16), type := 3, pos := "law.go:49", after := #[], guard := none } : Oper)) (v := ?_) rfl (by kernel_rfl) (by kernel_rfl) (by kernel_rfl) (fun _ _ _ h => h) (Or.inl ⟨by rfl, ?_⟩) (by assumption) ?_
      rotate_left
      · intro wS hSw
        first
          | (go_simp; done)
          | (go_simp; with_reducible rfl)
      try simp only [Act.put, List.setIfInBounds_toArray, List.set_cons_zero, List.set_cons_succ]
      refine wpAnyH_take (i := 18) (oi := ({ dst := some 97, op := Op.binOp BinOp.add 3 (Operand.tmp 95) (Operand.tmp 96) 3, type := 3, pos := "law.go:49", after := #[{ on := 16, ground := Ground.data }, { on := 17, ground := Ground.data }], guard := none } : Oper)) (v := ?_) rfl (by kernel_rfl) (by kernel_rfl) (by kernel_rfl) (fun _ _ _ h => h) (Or.inl ⟨by rfl, ?_⟩) (by assumption) ?_
      rotate_left
      · intro wS hSw
        first
          | (go_simp; done)
          | (go_simp; with_reducible rfl)
      try simp only [Act.put, List.setIfInBounds_toArray, List.set_cons_zero, List.set_cons_succ]
      refine wpAnyH_take (i := 19) (oi := ({ dst := some 98, op := Op.move (Operand.tmp 22), type := 3, pos := "law.go:49", after := #[], guard := none } : Oper)) (v := ?_) rfl (by kernel_rfl) (by kernel_rfl) (by kernel_rfl) (fun _ _ _ h => h) (Or.inl ⟨by rfl, ?_⟩) (by assumption) ?_
      rotate_left
      · intro wS hSw
        first
          | (go_simp; done)
          | (go_simp; with_reducible rfl)
      try simp only [Act.put, List.setIfInBounds_toArray, List.set_cons_zero, List.set_cons_succ]
      refine wpAnyH_take (i := 20) (oi := ({ dst := some 99, op := Op.binOp BinOp.add 3 (Operand.tmp 98) (Operand.const (Value.int IntKind.i64 1)) 3, type := 3, pos := "law.go:49", after := #[{ on := 19, ground := Ground.data }], guard := none } : Oper)) (v := ?_) rfl (by kernel_rfl) (by kernel_rfl) (by kernel_rfl) (fun _ _ _ h => h) (Or.inl ⟨by rfl, ?_⟩) (by assumption) ?_
      rotate_left
      · intro wS hSw
        first
          | (go_simp; done)
          | (go_simp; with_reducible rfl)
      try simp only [Act.put, List.setIfInBounds_toArray, List.set_cons_zero, List.set_cons_succ]
      refine wpAnyH_take (i := 21) (oi := ({ dst := some 100, op := Op.move (Operand.tmp 14), type := 3, pos := "law.go:49", after := #[], guard := none } : Oper)) (v := ?_) rfl (by kernel_rfl) (by kernel_rfl) (by kernel_rfl) (fun _ _ _ h => h) (Or.inl ⟨by rfl, ?_⟩) (by assumption) ?_
      rotate_left
      · intro wS hSw
        first
          | (go_simp; done)
          | (go_simp; with_reducible rfl)
      try simp only [Act.put, List.setIfInBounds_toArray, List.set_cons_zero, List.set_cons_succ]
      refine wpAnyH_take (i := 22) (oi := ({ dst := some 101, op := Op.binOp BinOp.mul 3 (Operand.tmp 99) (Operand.tmp 100) 3, type := 3, pos := "law.go:49", after := #[{ on := 20, ground := Ground.data }, { on := 21, ground := Ground.data }], guard := none } : Oper)) (v := ?_) rfl (by kernel_rfl) (by kernel_rfl) (by kernel_rfl) (fun _ _ _ h => h) (Or.inl ⟨by rfl, ?_⟩) (by assumption) ?_
      rotate_left
      · intro wS hSw
        first
          | (go_simp; done)
          | (go_simp; with_reducible rfl)
      try simp only [Act.put, List.setIfInBounds_toArray, List.set_cons_zero, List.set_cons_succ]
      refine wpAnyH_take (i := 23) (oi := ({ dst := some 102, op := Op.slice 22 (Operand.tmp 92) (some (Operand.tmp 97)) (some (Operand.tmp 101)) none, type := 22, pos := "law.go:49", after := #[{ on := 13, ground := Ground.data }, { on := 18, ground := Ground.data }, { on := 22, ground := Ground.data }], guard := none } : Oper)) (v := ?_) rfl (by kernel_rfl) (by kernel_rfl) (by kernel_rfl) (fun _ _ _ h => h) (Or.inl ⟨by rfl, ?_⟩) (by assumption) ?_
      rotate_left
      · intro wS hSw
        first
          | (go_simp; done)
          | (go_simp; with_reducible rfl)
      try simp only [Act.put, List.setIfInBounds_toArray, List.set_cons_zero, List.set_cons_succ]
      have hzz : W0.heap.size ≤ wr.heap.size := HBL.out.size
      refine wpAnyH_ready (rs := [11]) (by kernel_rfl) (by simp) ?_
      refine AllReadyH.cons (o := ({ dst := some 90, op := Op.call { callee := Callee.builtin Builtin.append, args := #[Operand.tmp 79, Operand.tmp 89], argTypes := #[22, 22] }, type := 22, pos := "law.go:49", after := #[{ on := 0, ground := Ground.data }, { on := 10, ground := Ground.data }], guard := none } : Oper)) rfl (fun K hK => ?_) (AllReadyH.nil)
      refine Kit.step_append_rd _ rfl (.tmp 79) (.tmp 89) _ rfl W0.heap.size 35 i0 (.int .i16 0) 1 2 Try.underlying22 hi0 hi1 hi2 hi3 rfl (by decide) u18 (l * at_) (I16v PA) rfl (Kit.own_below HU.out (Below.refl wr.heap.size wr).drew) W0.heap.size (some ⟨bX, oX + L1, none⟩) at_ (c1 - L1) (((X.drop L1).take at_).map (.int .i16)) rfl (by rw [List.length_map, cut_len HXL.out (by omega), Nat.mul_one]) (cut_rd (RX0.out.below HBL.out).drew L1 at_) (Kit.ints_one .i16 _) (by unfold maxLen; omega) (by omega) hzz ?_
      intro v5 w5 hown5 hg5 hat5
      have hz5 : W0.heap.size ≤ w5.heap.size := Nat.le_trans hzz (by simpa using hg5.size)
      have HV5 := Lib.hid (apart_kept (Kit.own_below HV.out (Below.refl wr.heap.size wr).drew) HAP.out hg5)
      have hap5 : Apart v5 u19 := apart_next (Kit.own_below HV.out (Below.refl wr.heap.size wr).drew) HAP.out hat5
      have HB5 : Hid (Below W0.heap.size W0 w5) := Lib.hid (HBL.out.drew.grown hg5 hzz (Kit.own_block_ge HU.out))
      have HU5 : Hid (w5.ownsRow W0.heap.size 35 1 v5 ((l + 1) * at_) (I16v (PA ++ (X.drop L1).take at_))) := Lib.hid (by rw [Nat.add_mul, Nat.one_mul]; simpa [I16v] using hown5)
      have HAP5 := Lib.hid hap5
      clear hown5 hg5 hat5 hap5 HU HV HAP HBL
      dsimp only
      refine hK.out _ _ ?_ (fun hHeld => ?_)
      · trivial
      clear hK K
      try simp only [Act.put, List.setIfInBounds_toArray, List.set_cons_zero, List.set_cons_succ]
      refine wpAnyH_ready (rs := [24]) (by kernel_rfl) (by simp) ?_
      refine AllReadyH.cons (o := ({ dst := some 103, op := Op.call { callee := Callee.builtin Builtin.append, args := #[Operand.tmp 91, Operand.tmp 102], argTypes := #[22, 22] }, type := 22, pos := "law.go:49", after := #[{ on := 12, ground := Ground.data }, { on := 23, ground := Ground.data }, { on := 11, ground := Ground.chain }], guard := none } : Oper)) rfl (fun K hK => ?_) (AllReadyH.nil)
      refine Kit.step_append_rd _ rfl (.tmp 91) (.tmp 102) _ rfl W0.heap.size 35 i0 (.int .i16 0) 1 2 Try.underlying22 hi0 hi1 hi2 hi3 rfl (by decide) u19 (l * d) (I16v QA) rfl HV5.out W0.heap.size (some ⟨bX, oX + L2, none⟩) d (c1 - L2) (((X.drop L2).take d).map (.int .i16)) rfl (by rw [List.length_map, cut_len HXL.out (by omega), Nat.mul_one]) (cut_rd (RX0.out.below HB5.out) L2 d) (Kit.ints_one .i16 _) (by unfold maxLen; omega) (by omega) hz5 ?_
      intro v6 w6 hown6 hg6 hat6
      have HU6 := Lib.hid (apart_kept HU5.out HAP5.out.symm hg6)
      have HAP6 : Hid (Apart v5 v6) := Lib.hid (apart_next HU5.out HAP5.out.symm hat6).symm
      have HB6 : Hid (Below W0.heap.size W0 w6) := Lib.hid (HB5.out.grown hg6 hz5 (Kit.own_block_ge HV5.out))
      have HV6 : Hid (w6.ownsRow W0.heap.size 35 1 v6 ((l + 1) * d) (I16v (QA ++ (X.drop L2).take d))) := Lib.hid (by rw [Nat.add_mul, Nat.one_mul]; simpa [I16v] using hown6)
      clear hown6 hg6 hat6 HU5 HV5 HAP5 HB5
      dsimp only
      refine hK.out _ _ ?_ (fun hHeld => ?_)
      · trivial
      clear hK K
      try simp only [Act.put, List.setIfInBounds_toArray, List.set_cons_zero, List.set_cons_succ]
      refine wpAnyH_take (i := 25) (oi := ({ dst := some 18, op := Op.assign (Operand.tmp 90), type := 22, pos := "law.go:49", after := #[{ on := 11, ground := Ground.data }, { on := 24, ground := Ground.chain }, { on := 0, ground := Ground.phase }, { on := 1, ground := Ground.phase }, { on := 2, ground := Ground.phase }, { on := 3, ground := Ground.phase }, { on := 4, ground := Ground.phase }, { on := 5, ground := Ground.phase }, { on := 6, ground := Ground.phase }, { on := 7, ground := Ground.phase }, { on := 8, ground := Ground.phase }, { on := 9, ground := Ground.phase }, { on := 10, ground := Ground.phase }, { on := 11, ground := Ground.phase }, { on := 12, ground := Ground.textOnly Departure.lateStores }, { on := 13, ground := Ground.textOnly Departure.lateStores }, { on := 14, ground := Ground.textOnly Departure.lateStores }, { on := 15, ground := Ground.textOnly Departure.lateStores }, { on := 16, ground := Ground.textOnly Departure.lateStores }, { on := 17, ground := Ground.textOnly Departure.lateStores }, { on := 18, ground := Ground.textOnly Departure.lateStores }, { on := 19, ground := Ground.textOnly Departure.lateStores }, { on := 20, ground := Ground.textOnly Departure.lateStores }, { on := 21, ground := Ground.textOnly Departure.lateStores }, { on := 22, ground := Ground.textOnly Departure.lateStores }, { on := 23, ground := Ground.textOnly Departure.lateStoresUnsure }, { on := 24, ground := Ground.textOnly Departure.lateStoresUnsure }], guard := none } : Oper)) (v := ?_) rfl (by kernel_rfl) (by kernel_rfl) (by kernel_rfl) (fun _ _ _ h => h) (Or.inl ⟨by rfl, ?_⟩) (by assumption) ?_
      rotate_left
      · intro wS hSw
        first
          | (go_simp; done)
          | (go_simp; with_reducible rfl)
      try simp only [Act.put, List.setIfInBounds_toArray, List.set_cons_zero, List.set_cons_succ]
      refine wpAnyH_take (i := 26) (oi := ({ dst := some 19, op := Op.assign (Operand.tmp 103), type := 22, pos := "law.go:49", after := #[{ on := 24, ground := Ground.data }, { on := 25, ground := Ground.chain }, { on := 0, ground := Ground.phase }, { on := 1, ground := Ground.phase }, { on := 2, ground := Ground.phase }, { on := 3, ground := Ground.phase }, { on := 4, ground := Ground.phase }, { on := 5, ground := Ground.phase }, { on := 6, ground := Ground.phase }, { on := 7, ground := Ground.phase }, { on := 8, ground := Ground.phase }, { on := 9, ground := Ground.phase }, { on := 10, ground := Ground.phase }, { on := 11, ground := Ground.phase }, { on := 12, ground := Ground.phase }, { on := 13, ground := Ground.phase }, { on := 14, ground := Ground.phase }, { on := 15, ground := Ground.phase }, { on := 16, ground := Ground.phase }, { on := 17, ground := Ground.phase }, { on := 18, ground := Ground.phase }, { on := 19, ground := Ground.phase }, { on := 20, ground := Ground.phase }, { on := 21, ground := Ground.phase }, { on := 22, ground := Ground.phase }, { on := 23, ground := Ground.phase }, { on := 24, ground := Ground.phase }, { on := 25, ground := Ground.phase }], guard := none } : Oper)) (v := ?_) rfl (by kernel_rfl) (by kernel_rfl) (by kernel_rfl) (fun _ _ _ h => h) (Or.inl ⟨by rfl, ?_⟩) (by assumption) ?_
      rotate_left
      · intro wS hSw
        first
          | (go_simp; done)
          | (go_simp; with_reducible rfl)
      try simp only [Act.put, List.setIfInBounds_toArray, List.set_cons_zero, List.set_cons_succ]
      refine wpAnyH_done (by kernel_rfl) ?_ _
      rw [HL'.out] at HU6 HV6 HPN HQN
      go_wp2_with fail
      go_roundw
      case rel => exact ⟨l', _, _, by have := HL'.out; omega, rfl, HU6, HV6, HPN, HQN, HAP6, HB6⟩
      case measure => have := HL'.out; simp [intOf]; omega
    · have hln : n = l := by omega
      subst hln
      go_wp2_with fail
      have HPA := HPP
      have HQA := HQQ
      obtain ⟨NA, hNA⟩ : ∃ x, n * at_ = x := ⟨_, rfl⟩
      obtain ⟨ND, hND⟩ : ∃ x, n * d = x := ⟨_, rfl⟩
      rw [hNA] at HU
      rw [hND] at HV
      have HNA := Lib.hid hNA
      have HND := Lib.hid hND
      clear hNA hND
      obtain ⟨A1, q1, rfl, hq1a, hq1b, hrd1⟩ := Kit.own_rd HU.out
      obtain ⟨A2, q2, rfl, hq2a, hq2b, hrd2⟩ := Kit.own_rd HV.out
      have RP1 := Lib.hid hrd1
      have RQ1 := Lib.hid hrd2
      have R1 := Lib.hid ((R0.out.below HBL.out).more HBL.out.size)
      have RY1 := Lib.hid ((RY0.out.below HBL.out).more HBL.out.size)
      have HB1 := Lib.hid (HB0.out.trans (HBL.out.mono HB0.out.size))
      clear HU HV HAP HPP HQQ HBL RX0 RY0 R0 HB0 hrd1 hrd2 hi0 hi1 hi2 hi3
      generalize wr = W1 at RP1 RQ1 R1 RY1 HB1 ⊢
      obtain ⟨i0, hi0, hi1, hi2, hi3⟩ := info_parts info_i8
      go_loopw [20, 21, 23] (fun u v i wr => ∃ (l : Nat) (PB QB : List Int), l ≤ k ∧ i = .int .i64 l ∧ Hid (wr.ownsRow W1.heap.size 36 1 u (l * at_) (I8v PB)) ∧ Hid (wr.ownsRow W1.heap.size 36 1 v (l * d) (I8v QB)) ∧ Hid (Parts Y m 0 at_ l PB) ∧ Hid (Parts Y m at_ d l QB) ∧ Hid (Apart u v) ∧ Hid (Below W1.heap.size W1 wr)) (fun _ _ i _ => k - (intOf i).toNat)
      case atStart => exact ⟨0, [], [], Nat.zero_le _, rfl, Lib.hid ⟨by simp [I8v], .inl ⟨rfl, by simp⟩⟩, Lib.hid ⟨by simp [I8v], .inl ⟨rfl, by simp⟩⟩, Lib.hid (Parts.zero _ _ _ _), Lib.hid (Parts.zero _ _ _ _), Lib.hid (fun g h => by cases h), Lib.hid (Below.refl _ _)⟩
      case round =>
        obtain ⟨l, PB, QB, hl, rfl, HU, HV, HPP, HQQ, HAP, HBL⟩ := hrel
        by_cases hlt : l < k
        · have hlI : (l : Int) < (k : Int) := by omega
          obtain ⟨L1, hL1⟩ : ∃ L, l * m = L := ⟨_, rfl⟩
          obtain ⟨L2, hL2⟩ : ∃ L, L1 + at_ = L := ⟨_, rfl⟩
          obtain ⟨L3, hL3⟩ : ∃ L, L1 + m = L := ⟨_, rfl⟩
          obtain ⟨l', hl'⟩ : ∃ l', l + 1 = l' := ⟨_, rfl⟩
          have hL : L3 ≤ N2 := by rw [← HN2.out, ← hL3, ← hL1]; have := Nat.mul_le_mul_right m (show l + 1 ≤ k by omega); rwa [Nat.add_mul, Nat.one_mul] at this
          have w1 : IntKind.i64.wrap ((l : Int) * (m : Int)) = (L1 : Int) := by rw [← Int.natCast_mul, hL1]; exact IntWalk.i64_in _ (by omega)
          have w2 : IntKind.i64.wrap ((L1 : Int) + (at_ : Int)) = (L2 : Int) := by rw [← Int.natCast_add, hL2]; exact IntWalk.i64_in _ (by omega)
          have w3 : IntKind.i64.wrap ((l : Int) + 1) = (l' : Int) := by rw [IntWalk.i64_in _ (by omega)]; omega
          have w4 : IntKind.i64.wrap ((l' : Int) * (m : Int)) = (L3 : Int) := by rw [← Int.natCast_mul, ← hl', Nat.add_mul, Nat.one_mul, hL1, hL3]; exact IntWalk.i64_in _ (by omega)
          have s1 : (0 : Int) ≤ (L1 : Int) := by omega
          have s2 : (L1 : Int) ≤ (L2 : Int) := by omega
          have s3 : (L2 : Int) ≤ (c2 : Int) := by omega
          have s4 : (0 : Int) ≤ (L2 : Int) := by omega
          have s5 : (L2 : Int) ≤ (L3 : Int) := by omega
          have s6 : (L3 : Int) ≤ (c2 : Int) := by omega
          have s7 : ¬ c2 = L1 := by omega
          have s8 : ¬ c2 = L2 := by omega
          have sA : L2 - L1 = at_ := by omega
          have sB : L3 - L2 = d := by omega
          have hlm1 : l * at_ ≤ 120 := Nat.le_trans (Nat.mul_le_mul (show l ≤ 6 by omega) (show at_ ≤ 20 by omega)) (by omega)
          have hlm2 : l * d ≤ 120 := Nat.le_trans (Nat.mul_le_mul (show l ≤ 6 by omega) (show d ≤ 20 by omega)) (by omega)
          have hPn := HPP.out.succ (p := L1) (by omega) (show L1 + at_ ≤ Y.length by have := HYL.out; omega)
          have hQn := HQQ.out.succ (p := L2) (by omega) (show L2 + d ≤ Y.length by have := HYL.out; omega)
          have HPN := Lib.hid hPn
          have HQN := Lib.hid hQn
          have HL' := Lib.hid hl'
          clear hL1 hL2 hL3 hl' hPn hQn
          go_wp2_with fail
          refine wp_region_held_drew (S := fun _ => True) (by kernel_rfl) trivial (fun hHeld => ?_)
          refine wpAnyH_take (i := 0) (oi := ({ dst := some 109, op := Op.move (Operand.tmp 20), type := 23, pos := "law.go:52", after := #[], guard := none } : Oper)) (v := ?_) rfl (by kernel_rfl) (by kernel_rfl) (by kernel_rfl) (fun _ _ _ h => h) (Or.inl ⟨by rfl, ?_⟩) (by assumption) ?_
          rotate_left
          · intro wS hSw
            first
              | (go_simp; done)
              | (go_simp; with_reducible rfl)
          try simp only [Act.put, List.setIfInBounds_toArray, List.set_cons_zero, List.set_cons_succ]
          refine wpAnyH_take (i := 1) (oi := ({ dst := some 110, op := Op.move (Operand.tmp 1), type := 23, pos := "law.go:52", after := #[], guard := none } : Oper)) (v := ?_) rfl (by kernel_rfl) (by kernel_rfl) (by kernel_rfl) (fun _ _ _ h => h) (Or.inl ⟨by rfl, ?_⟩) (by assumption) ?_
          rotate_left
          · intro wS hSw
            first
              | (go_simp; done)
              | (go_simp; with_reducible rfl)
          try simp only [Act.put, List.setIfInBounds_toArray, List.set_cons_zero, List.set_cons_succ]
          refine wpAnyH_take (i := 2) (oi := ({ dst := some 111, op := Op.move (Operand.tmp 23), type := 3, pos := "law.go:52", after := #[], guard := none } : Oper)) (v := ?_) rfl (by kernel_rfl) (by kernel_rfl) (by kernel_rfl) (fun _ _ _ h => h) (Or.inl ⟨by rfl, ?_⟩) (by assumption) ?_
          rotate_left
          · intro wS hSw
            first
              | (go_simp; done)
              | (go_simp; with_reducible rfl)
          try simp only [Act.put, List.setIfInBounds_toArray, List.set_cons_zero, List.set_cons_succ]
          refine wpAnyH_take (i := 3) (oi := ({ dst := some 112, op := Op.move (Operand.tmp 14), type := 3, pos := "law.go:52", after := #[], guard := none } : Oper)) (v := ?_) rfl (by kernel_rfl) (by kernel_rfl) (by kernel_rfl) (fun _ _ _ h => h) (Or.inl ⟨by rfl, ?_⟩) (by assumption) ?_
          rotate_left
          · intro wS hSw
            first
              | (go_simp; done)
              | (go_simp; with_reducible rfl)
          try simp only [Act.put, List.setIfInBounds_toArray, List.set_cons_zero, List.set_cons_succ]
          refine wpAnyH_take (i := 4) (oi := ({ dst := some 113, op := Op.binOp BinOp.mul 3 (Operand.tmp 111) (Operand.tmp 112) 3, type := 3, pos := "law.go:52", after := #[{ on := 2, ground := Ground.data }, { on := 3, ground := Ground.data }], guard := none } : Oper)) (v := ?_) rfl (by kernel_rfl) (by kernel_rfl) (by kernel_rfl) (fun _ _ _ h => h) (Or.inl ⟨by rfl, ?_⟩) (by assumption) ?_
          rotate_left
          · intro wS hSw
            first
              | (go_simp; done)
              | (go_simp; with_reducible rfl)
          try simp only [Act.put, List.setIfInBounds_toArray, List.set_cons_zero, List.set_cons_succ]
          refine wpAnyH_take (i := 5) (oi := ({ dst := some 114, op := Op.move (Operand.tmp 23), type := 3, pos := "law.go:52", after := #[], guard := none } : Oper)) (v := ?_) rfl (by kernel_rfl) (by kernel_rfl) (by kernel_rfl) (fun _ _ _ h => h) (Or.inl ⟨by rfl, ?_⟩) (by assumption) ?_
          rotate_left
          · intro wS hSw
            first
              | (go_simp; done)
              | (go_simp; with_reducible rfl)
          try simp only [Act.put, List.setIfInBounds_toArray, List.set_cons_zero, List.set_cons_succ]
          refine wpAnyH_take (i := 6) (oi := ({ dst := some 115, op := Op.move (Operand.tmp 14), type := 3, pos := "law.go:52", after := #[], guard := none } : Oper)) (v := ?_) rfl (by kernel_rfl) (by kernel_rfl) (by kernel_rfl) (fun _ _ _ h => h) (Or.inl ⟨by rfl, ?_⟩) (by assumption) ?_
          rotate_left
          · intro wS hSw
            first
              | (go_simp; done)
              | (go_simp; with_reducible rfl)
          try simp only [Act.put, List.setIfInBounds_toArray, List.set_cons_zero, List.set_cons_succ]
          refine wpAnyH_take (i := 7) (oi := ({ dst := some 116, op := Op.binOp BinOp.mul 3 (Operand.tmp 114) (Operand.tmp 115) 3, type := 3, pos := "law.go:52", after := #[{ on := 5, ground := Ground.data }, { on := 6, ground := Ground.data }], guard := none } : Oper)) (v := ?_) rfl (by kernel_rfl) (by kernel_rfl) (by kernel_rfl) (fun _ _ _ h => h) (Or.inl ⟨by rfl, ?_⟩) (by assumption) ?_
          rotate_left
          · intro wS hSw
            first
              | (go_simp; done)
              | (go_simp; with_reducible rfl)
          try simp only [Act.put, List.setIfInBounds_toArray, List.set_cons_zero, List.set_cons_succ]
          refine wpAnyH_take (i := 8) (oi := ({ dst := some 117, op := Op.move (Operand.tmp 16), type := 3, pos := "law.go:52", after := #[], guard := none } : Oper)) (v := ?_) rfl (by kernel_rfl) (by kernel_rfl) (by kernel_rfl) (fun _ _ _ h => h) (Or.inl ⟨by rfl, ?_⟩) (by assumption) ?_
          rotate_left
          · intro wS hSw
            first
              | (go_simp; done)
              | (go_simp; with_reducible rfl)
          try simp only [Act.put, List.setIfInBounds_toArray, List.set_cons_zero, List.set_cons_succ]
          refine wpAnyH_take (i := 9) (oi := ({ dst := some 118, op := Op.binOp BinOp.add 3 (Operand.tmp 116) (Operand.tmp 117) 3, type := 3, pos := "law.go:52", after := #[{ on := 7, ground := Ground.data }, { on := 8, ground := Ground.data }], guard := none } : Oper)) (v := ?_) rfl (by kernel_rfl) (by kernel_rfl) (by kernel_rfl) (fun _ _ _ h => h) (Or.inl ⟨by rfl, ?_⟩) (by assumption) ?_
          rotate_left
          · intro wS hSw
            first
              | (go_simp; done)
              | (go_simp; with_reducible rfl)
          try simp only [Act.put, List.setIfInBounds_toArray, List.set_cons_zero, List.set_cons_succ]
          refine wpAnyH_take (i := 10) (oi := ({ dst := some 119, op := Op.slice 23 (Operand.tmp 110) (some (Operand.tmp 113)) (some (Operand.tmp 118)) none, type := 23, pos := "law.go:52", after := #[{ on := 1, ground := Ground.data }, { on := 4, ground := Ground.data }, { on := 9, ground := Ground.data }], guard := none } : Oper)) (v := ?_) rfl (by kernel_rfl) (by kernel_rfl) (by kernel_rfl) (fun _ _ _ h => h) (Or.inl ⟨by rfl, ?_⟩) (by assumption) ?_
          rotate_left
          · intro wS hSw
            first
              | (go_simp; done)
              | (go_simp; with_reducible rfl)
          try simp only [Act.put, List.setIfInBounds_toArray, List.set_cons_zero, List.set_cons_succ]
          refine wpAnyH_take (i := 12) (oi := ({ dst := some 121, op := Op.move (Operand.tmp 21), type := 23, pos := "law.go:52", after := #[], guard := none } : Oper)) (v := ?_) rfl (by kernel_rfl) (by kernel_rfl) (by kernel_rfl) (fun _ _ _ h => h) (Or.inl ⟨by rfl, ?_⟩) (by assumption) ?_
          rotate_left
          · intro wS hSw
            first
              | (go_simp; done)
              | (go_simp; with_reducible rfl)
          try simp only [Act.put, List.setIfInBounds_toArray, List.set_cons_zero, List.set_cons_succ]
          refine wpAnyH_take (i := 13) (oi := ({ dst := some 122, op := Op.move (Operand.tmp 1), type := 23, pos := "law.go:52", after := #[], guard := none } : Oper)) (v := ?_) rfl (by kernel_rfl) (by kernel_rfl) (by kernel_rfl) (fun _ _ _ h => h) (Or.inl ⟨by rfl, ?_⟩) (by assumption) ?_
          rotate_left
          · intro wS hSw
            first
              | (go_simp; done)
              | (go_simp; with_reducible rfl)
          try simp only [Act.put, List.setIfInBounds_toArray, List.set_cons_zero, List.set_cons_succ]
          refine wpAnyH_take (i := 14) (oi := ({ dst := some 123, op := Op.move (Operand.tmp 23), type := 3, pos := "law.go:52", after := #[], guard := none } : Oper)) (v := ?_) rfl (by kernel_rfl) (by kernel_rfl) (by kernel_rfl) (fun _ _ _ h => h) (Or.inl ⟨by rfl, ?_⟩) (by assumption) ?_
          rotate_left
          · intro wS hSw
            first
              | (go_simp; done)
              | (go_simp; with_reducible rfl)
          try simp only [Act.put, List.setIfInBounds_toArray, List.set_cons_zero, List.set_cons_succ]
          refine wpAnyH_take (i := 15) (oi := ({ dst := some 124, op := Op.move (Operand.tmp 14), type := 3, pos := "law.go:52", after := #[], guard := none } : Oper)) (v := ?_) rfl (by kernel_rfl) (by kernel_rfl) (by kernel_rfl) (fun _ _ _ h => h) (Or.inl ⟨by rfl, ?_⟩) (by assumption) ?_
          rotate_left
          · intro wS hSw
            first
              | (go_simp; done)
              | (go_simp; with_reducible rfl)
          try simp only [Act.put, List.setIfInBounds_toArray, List.set_cons_zero, List.set_cons_succ]
          refine wpAnyH_take (i := 16) (oi := ({ dst := some 125, op := Op.binOp BinOp.mul 3 (Operand.tmp 123) (Operand.tmp 124) 3, type := 3, pos := "law.go:52", after := #[{ on := 14, ground := Ground.data }, { on := 15, ground := Ground.data }], guard := none } : Oper)) (v := ?_) rfl (by kernel_rfl) (by kernel_rfl) (by kernel_rfl) (fun _ _ _ h => h) (Or.inl ⟨by rfl, ?_⟩) (by assumption) ?_
          rotate_left
          · intro wS hSw
            first
              | (go_simp; done)
              | (go_simp; with_reducible rfl)
          try simp only [Act.put, List.setIfInBounds_toArray, List.set_cons_zero, List.set_cons_succ]
          refine wpAnyH_take (i := 17) (oi := ({ dst := some 126, op := Op.move (Operand.tmp 16), type := 3, pos := "law.go:52", after := #[], guard := none } : Oper)) (v := ?_) rfl (by kernel_rfl) (by kernel_rfl) (by kernel_rfl) (fun _ _ _ h => h) (Or.inl ⟨by rfl, ?_⟩) (by assumption) ?_
          rotate_left
          · intro wS hSw
            first
              | (go_simp; done)
              | (go_simp; with_reducible rfl)
          try simp only [Act.put, List.setIfInBounds_toArray, List.set_cons_zero, List.set_cons_succ]
          refine wpAnyH_take (i := 18) (oi := ({ dst := some 127, op := Op.binOp BinOp.add 3 (Operand.tmp 125) (Operand.tmp 126) 3, type := 3, pos := "law.go:52", after := #[{ on := 16, ground := Ground.data }, { on := 17, ground := Ground.data }], guard := none } : Oper)) (v := ?_) rfl (by kernel_rfl) (by kernel_rfl) (by kernel_rfl) (fun _ _ _ h => h) (Or.inl ⟨by rfl, ?_⟩) (by assumption) ?_
          rotate_left
          · intro wS hSw
            first
              | (go_simp; done)
              | (go_simp; with_reducible rfl)
          try simp only [Act.put, List.setIfInBounds_toArray, List.set_cons_zero, List.set_cons_succ]
          refine wpAnyH_take (i := 19) (oi := ({ dst := some 128, op := Op.move (Operand.tmp 23), type := 3, pos := "law.go:52", after := #[], guard := none } : Oper)) (v := ?_) rfl (by kernel_rfl) (by kernel_rfl) (by kernel_rfl) (fun _ _ _ h => h) (Or.inl ⟨by rfl, ?_⟩) (by assumption) ?_
          rotate_left
          · intro wS hSw
            first
              | (go_simp; done)
              | (go_simp; with_reducible rfl)
          try simp only [Act.put, List.setIfInBounds_toArray, List.set_cons_zero, List.set_cons_succ]
          refine wpAnyH_take (i := 20) (oi := ({ dst := some 129, op := Op.binOp BinOp.add 3 (Operand.tmp 128) (Operand.const (Value.int IntKind.i64 1)) 3, type := 3, pos := "law.go:52", after := #[{ on := 19, ground := Ground.data }], guard := none } : Oper)) (v := ?_) rfl (by kernel_rfl) (by kernel_rfl) (by kernel_rfl) (fun _ _ _ h => h) (Or.inl ⟨by rfl, ?_⟩) (by assumption) ?_
          rotate_left
          · intro wS hSw
            first
              | (go_simp; done)
              | (go_simp; with_reducible rfl)
          try simp only [Act.put, List.setIfInBounds_toArray, List.set_cons_zero, List.set_cons_succ]
          refine wpAnyH_take (i := 21) (oi := ({ dst := some 130, op := Op.move (Operand.tmp 14), type := 3, pos := "law.go:52", after := #[], guard := none } : Oper)) (v := ?_) rfl (by kernel_rfl) (by kernel_rfl) (by kernel_rfl) (fun _ _ _ h => h) (Or.inl ⟨by rfl, ?_⟩) (by assumption) ?_
          rotate_left
          · intro wS hSw
            first
              | (go_simp; done)
              | (go_simp; with_reducible rfl)
          try simp only [Act.put, List.setIfInBounds_toArray, List.set_cons_zero, List.set_cons_succ]
          refine wpAnyH_take (i := 22) (oi := ({ dst := some 131, op := Op.binOp BinOp.mul 3 (Operand.tmp 129) (Operand.tmp 130) 3, type := 3, pos := "law.go:52", after := #[{ on := 20, ground := Ground.data }, { on := 21, ground := Ground.data }], guard := none } : Oper)) (v := ?_) rfl (by kernel_rfl) (by kernel_rfl) (by kernel_rfl) (fun _ _ _ h => h) (Or.inl ⟨by rfl, ?_⟩) (by assumption) ?_
          rotate_left
          · intro wS hSw
            first
              | (go_simp; done)
              | (go_simp; with_reducible rfl)
          try simp only [Act.put, List.setIfInBounds_toArray, List.set_cons_zero, List.set_cons_succ]
          refine wpAnyH_take (i := 23) (oi := ({ dst := some 132, op := Op.slice 23 (Operand.tmp 122) (some (Operand.tmp 127)) (some (Operand.tmp 131)) none, type := 23, pos := "law.go:52", after := #[{ on := 13, ground := Ground.data }, { on := 18, ground := Ground.data }, { on := 22, ground := Ground.data }], guard := none } : Oper)) (v := ?_) rfl (by kernel_rfl) (by kernel_rfl) (by kernel_rfl) (fun _ _ _ h => h) (Or.inl ⟨by rfl, ?_⟩) (by assumption) ?_
          rotate_left
          · intro wS hSw
            first
              | (go_simp; done)
              | (go_simp; with_reducible rfl)
          try simp only [Act.put, List.setIfInBounds_toArray, List.set_cons_zero, List.set_cons_succ]
          have hzz : W1.heap.size ≤ wr.heap.size := HBL.out.size
          refine wpAnyH_ready (rs := [11]) (by kernel_rfl) (by simp) ?_
          refine AllReadyH.cons (o := ({ dst := some 120, op := Op.call { callee := Callee.builtin Builtin.append, args := #[Operand.tmp 109, Operand.tmp 119], argTypes := #[23, 23] }, type := 23, pos := "law.go:52", after := #[{ on := 0, ground := Ground.data }, { on := 10, ground := Ground.data }], guard := none } : Oper)) rfl (fun K hK => ?_) (AllReadyH.nil)
          refine Kit.step_append_rd _ rfl (.tmp 109) (.tmp 119) _ rfl W1.heap.size 36 i0 (.int .i8 0) 1 1 Try.underlying23 hi0 hi1 hi2 hi3 rfl (by decide) u20 (l * at_) (I8v PB) rfl (Kit.own_below HU.out (Below.refl wr.heap.size wr).drew) W1.heap.size (some ⟨bY, oY + L1, none⟩) at_ (c2 - L1) (((Y.drop L1).take at_).map (.int .i8)) rfl (by rw [List.length_map, cut_len HYL.out (by omega), Nat.mul_one]) (cut_rd (RY1.out.below HBL.out).drew L1 at_) (Kit.ints_one .i8 _) (by unfold maxLen; omega) (by omega) hzz ?_
          intro v5 w5 hown5 hg5 hat5
          have hz5 : W1.heap.size ≤ w5.heap.size := Nat.le_trans hzz (by simpa using hg5.size)
          have HV5 := Lib.hid (apart_kept (Kit.own_below HV.out (Below.refl wr.heap.size wr).drew) HAP.out hg5)
          have hap5 : Apart v5 u21 := apart_next (Kit.own_below HV.out (Below.refl wr.heap.size wr).drew) HAP.out hat5
          have HB5 : Hid (Below W1.heap.size W1 w5) := Lib.hid (HBL.out.drew.grown hg5 hzz (Kit.own_block_ge HU.out))
          have HU5 : Hid (w5.ownsRow W1.heap.size 36 1 v5 ((l + 1) * at_) (I8v (PB ++ (Y.drop L1).take at_))) := Lib.hid (by rw [Nat.add_mul, Nat.one_mul]; simpa [I8v] using hown5)
          have HAP5 := Lib.hid hap5
          clear hown5 hg5 hat5 hap5 HU HV HAP HBL
          dsimp only
          refine hK.out _ _ ?_ (fun hHeld => ?_)
          · trivial
          clear hK K
          try simp only [Act.put, List.setIfInBounds_toArray, List.set_cons_zero, List.set_cons_succ]
          refine wpAnyH_ready (rs := [24]) (by kernel_rfl) (by simp) ?_
          refine AllReadyH.cons (o := ({ dst := some 133, op := Op.call { callee := Callee.builtin Builtin.append, args := #[Operand.tmp 121, Operand.tmp 132], argTypes := #[23, 23] }, type := 23, pos := "law.go:52", after := #[{ on := 12, ground := Ground.data }, { on := 23, ground := Ground.data }, { on := 11, ground := Ground.chain }], guard := none } : Oper)) rfl (fun K hK => ?_) (AllReadyH.nil)
          refine Kit.step_append_rd _ rfl (.tmp 121) (.tmp 132) _ rfl W1.heap.size 36 i0 (.int .i8 0) 1 1 Try.underlying23 hi0 hi1 hi2 hi3 rfl (by decide) u21 (l * d) (I8v QB) rfl HV5.out W1.heap.size (some ⟨bY, oY + L2, none⟩) d (c2 - L2) (((Y.drop L2).take d).map (.int .i8)) rfl (by rw [List.length_map, cut_len HYL.out (by omega), Nat.mul_one]) (cut_rd (RY1.out.below HB5.out) L2 d) (Kit.ints_one .i8 _) (by unfold maxLen; omega) (by omega) hz5 ?_
          intro v6 w6 hown6 hg6 hat6
          have HU6 := Lib.hid (apart_kept HU5.out HAP5.out.symm hg6)
          have HAP6 : Hid (Apart v5 v6) := Lib.hid (apart_next HU5.out HAP5.out.symm hat6).symm
          have HB6 : Hid (Below W1.heap.size W1 w6) := Lib.hid (HB5.out.grown hg6 hz5 (Kit.own_block_ge HV5.out))
          have HV6 : Hid (w6.ownsRow W1.heap.size 36 1 v6 ((l + 1) * d) (I8v (QB ++ (Y.drop L2).take d))) := Lib.hid (by rw [Nat.add_mul, Nat.one_mul]; simpa [I8v] using hown6)
          clear hown6 hg6 hat6 HU5 HV5 HAP5 HB5
          dsimp only
          refine hK.out _ _ ?_ (fun hHeld => ?_)
          · trivial
          clear hK K
          try simp only [Act.put, List.setIfInBounds_toArray, List.set_cons_zero, List.set_cons_succ]
          refine wpAnyH_take (i := 25) (oi := ({ dst := some 20, op := Op.assign (Operand.tmp 120), type := 23, pos := "law.go:52", after := #[{ on := 11, ground := Ground.data }, { on := 24, ground := Ground.chain }, { on := 0, ground := Ground.phase }, { on := 1, ground := Ground.phase }, { on := 2, ground := Ground.phase }, { on := 3, ground := Ground.phase }, { on := 4, ground := Ground.phase }, { on := 5, ground := Ground.phase }, { on := 6, ground := Ground.phase }, { on := 7, ground := Ground.phase }, { on := 8, ground := Ground.phase }, { on := 9, ground := Ground.phase }, { on := 10, ground := Ground.phase }, { on := 11, ground := Ground.phase }, { on := 12, ground := Ground.textOnly Departure.lateStores }, { on := 13, ground := Ground.textOnly Departure.lateStores }, { on := 14, ground := Ground.textOnly Departure.lateStores }, { on := 15, ground := Ground.textOnly Departure.lateStores }, { on := 16, ground := Ground.textOnly Departure.lateStores }, { on := 17, ground := Ground.textOnly Departure.lateStores }, { on := 18, ground := Ground.textOnly Departure.lateStores }, { on := 19, ground := Ground.textOnly Departure.lateStores }, { on := 20, ground := Ground.textOnly Departure.lateStores }, { on := 21, ground := Ground.textOnly Departure.lateStores }, { on := 22, ground := Ground.textOnly Departure.lateStores }, { on := 23, ground := Ground.textOnly Departure.lateStoresUnsure }, { on := 24, ground := Ground.textOnly Departure.lateStoresUnsure }], guard := none } : Oper)) (v := ?_) rfl (by kernel_rfl) (by kernel_rfl) (by kernel_rfl) (fun _ _ _ h => h) (Or.inl ⟨by rfl, ?_⟩) (by assumption) ?_
          rotate_left
          · intro wS hSw
            first
              | (go_simp; done)
              | (go_simp; with_reducible rfl)
          try simp only [Act.put, List.setIfInBounds_toArray, List.set_cons_zero, List.set_cons_succ]
          refine wpAnyH_take (i := 26) (oi := ({ dst := some 21, op := Op.assign (Operand.tmp 133), type := 23, pos := "law.go:52", after := #[{ on := 24, ground := Ground.data }, { on := 25, ground := Ground.chain }, { on := 0, ground := Ground.phase }, { on := 1, ground := Ground.phase }, { on := 2, ground := Ground.phase }, { on := 3, ground := Ground.phase }, { on := 4, ground := Ground.phase }, { on := 5, ground := Ground.phase }, { on := 6, ground := Ground.phase }, { on := 7, ground := Ground.phase }, { on := 8, ground := Ground.phase }, { on := 9, ground := Ground.phase }, { on := 10, ground := Ground.phase }, { on := 11, ground := Ground.phase }, { on := 12, ground := Ground.phase }, { on := 13, ground := Ground.phase }, { on := 14, ground := Ground.phase }, { on := 15, ground := Ground.phase }, { on := 16, ground := Ground.phase }, { on := 17, ground := Ground.phase }, { on := 18, ground := Ground.phase }, { on := 19, ground := Ground.phase }, { on := 20, ground := Ground.phase }, { on := 21, ground := Ground.phase }, { on := 22, ground := Ground.phase }, { on := 23, ground := Ground.phase }, { on := 24, ground := Ground.phase }, { on := 25, ground := Ground.phase }], guard := none } : Oper)) (v := ?_) rfl (by kernel_rfl) (by kernel_rfl) (by kernel_rfl) (fun _ _ _ h => h) (Or.inl ⟨by rfl, ?_⟩) (by assumption) ?_
          rotate_left
          · intro wS hSw
            first
              | (go_simp; done)
              | (go_simp; with_reducible rfl)
          try simp only [Act.put, List.setIfInBounds_toArray, List.set_cons_zero, List.set_cons_succ]
          refine wpAnyH_done (by kernel_rfl) ?_ _
          rw [HL'.out] at HU6 HV6 HPN HQN
          go_wp2_with fail
          go_roundw
          case rel => exact ⟨l', _, _, by have := HL'.out; omega, rfl, HU6, HV6, HPN, HQN, HAP6, HB6⟩
          case measure => have := HL'.out; simp [intOf]; omega
        · have hln : k = l := by omega
          subst hln
          go_wp2_with fail
          obtain ⟨KA, hKA⟩ : ∃ x, k * at_ = x := ⟨_, rfl⟩
          obtain ⟨KD, hKD⟩ : ∃ x, k * d = x := ⟨_, rfl⟩
          rw [hKA] at HU
          rw [hKD] at HV
          obtain ⟨A3, q3, rfl, hq3a, hq3b, hrd3⟩ := Kit.own_rd HU.out
          obtain ⟨A4, q4, rfl, hq4a, hq4b, hrd4⟩ := Kit.own_rd HV.out
          have R2 := Lib.hid ((R1.out.below HBL.out).more HBL.out.size)
          have RP2 := Lib.hid ((RP1.out.below HBL.out).more HBL.out.size)
          have RQ2 := Lib.hid ((RQ1.out.below HBL.out).more HBL.out.size)
          have RP3 := Lib.hid hrd3
          have RQ3 := Lib.hid hrd4
          have HB2 := Lib.hid (HB1.out.trans (HBL.out.mono HB1.out.size))
          obtain ⟨F1, hF1⟩ : ∃ F1, mulF PA PB at_ k = F1 := ⟨_, rfl⟩
          obtain ⟨F2, hF2⟩ : ∃ F2, mulF QA QB d k = F2 := ⟨_, rfl⟩
          have hsum : ∀ i, i < N → IntKind.i32.wrap (F1 i + F2 i) = F i := fun i hi => by
            have := parts_sum (at_ := at_) (by omega) HPA.out (by rw [HD.out]; exact HQA.out) HPP.out (by rw [HD.out]; exact HQQ.out) (show i < n * k by rw [HN.out]; exact hi)
            rw [HD.out, hF1, hF2, HF.out] at this
            exact this
          have HSUM := Lib.hid hsum
          have hlA := HPA.out.1
          have hlB := HQA.out.1
          have hlC := HPP.out.1
          have hlD := HQQ.out.1
          rw [HNA.out] at hlA
          rw [HND.out] at hlB
          rw [hKA] at hlC
          rw [hKD] at hlD
          have hA2 : holdsB (ND : Int) (n : Int) (d : Int) = true := by simp only [holdsB, decide_eq_true_eq]; exact ⟨by omega, by omega, by omega, by omega, by rw [← HND.out]; simp⟩
          have hB2 : holdsB (KD : Int) (k : Int) (d : Int) = true := by simp only [holdsB, decide_eq_true_eq]; exact ⟨by omega, by omega, by omega, by omega, by rw [← hKD]; simp⟩
          have HM2 : Hid (∀ w : World, Kit.Rd w w.heap.size A2 (I16v QA) → Kit.Rd w w.heap.size A4 (I8v QB) → Calls Try.prog 8 #[.slice A2 ND q2, .slice A4 KD q4, .int .i64 (n : Int), .int .i64 (d : Int), .int .i64 (k : Int)] w (Owned w 21 N (I32v (rowL F2 N)))) :=
            Lib.hid (fun w r1 r2 => mul_yes A2 A4 QA QB ND KD q2 q4 n d k N hlB hlD hA2 hB2 HN.out (by omega) hq2a hq4a hq2b hq4b (parts_I16 HQA.out HXB.out) (parts_I8 HQQ.out HYB.out) F2 hF2.symm w r1 r2)
          have HM1' : Hid (0 < at_ → ∀ w : World, Kit.Rd w w.heap.size A1 (I16v PA) → Kit.Rd w w.heap.size A3 (I8v PB) → Calls Try.prog 8 #[.slice A1 NA q1, .slice A3 KA q3, .int .i64 (n : Int), .int .i64 (at_ : Int), .int .i64 (k : Int)] w (Owned w 21 N (I32v (rowL F1 N)))) :=
            Lib.hid (fun h0 w r1 r2 => mul_yes A1 A3 PA PB NA KA q1 q3 n at_ k N hlA hlC (by simp only [holdsB, decide_eq_true_eq]; exact ⟨by omega, by omega, by omega, by omega, by rw [← HNA.out]; simp⟩) (by simp only [holdsB, decide_eq_true_eq]; exact ⟨by omega, by omega, by omega, by omega, by rw [← hKA]; simp⟩) HN.out (by omega) hq1a hq3a hq1b hq3b (parts_I16 HPA.out HXB.out) (parts_I8 HPP.out HYB.out) F1 hF1.symm w r1 r2)
          have HZ1 : Hid (at_ = 0 → rowL F1 N = List.replicate N 0) := Lib.hid (fun h0 => by
            refine (eq_rowL (by simp) fun i hi => ?_).symm
            rw [← hF1, h0, mulF_zero]; simp [hi])
          have v3 : IntKind.i64.wrap ((n : Int) * (k : Int)) = (N : Int) := by rw [← Int.natCast_mul, HN.out]; exact IntWalk.i64_in _ (by omega)
          have hN0 : (0 : Int) ≤ (N : Int) := by omega
          clear HU HV HAP HPP HQQ HBL RP1 RQ1 R1 RY1 HB1 hrd3 hrd4 hi0 hi1 hi2 hi3 HPA HQA hF1 hF2 hsum hlA hlB hlC hlD hA2 hB2 hKA hKD
          generalize wr = W2 at R2 RP2 RQ2 RP3 RQ3 HB2 ⊢
          obtain ⟨i0, hi0, hi1, hi2, hi3⟩ := info_parts info_i32
          have hmk : ∀ w : World, (Instr.makeSlice 26 (.int .i64 (N : Int)) (.int .i64 (N : Int))).run Try.prog w = .ok (.slice (some ⟨w.heap.size, 0, none⟩) N N) (w.alloc (.cells (List.replicate N (.int .i32 0)).toArray 21)) := fun w => by
            have h := run_make (P := Try.prog) w 26 21 i0 (.int .i32 0) Try.underlying26 hi0 hi1 .i64 .i64 N N hN0 (Int.le_refl _) (by rw [hi3]; omega) (by omega)
            rw [hi2, Nat.mul_one, show (Value.int .i32 0).cells = #[.int .i32 0] from rfl] at h
            have e : madeCells #[Value.int .i32 0] N = (List.replicate N (.int .i32 0)).toArray := by
              apply Array.ext'
              rw [toList_madeCells_one]
            simp only [Int.toNat_natCast] at h
            rw [e] at h
            exact h
          clear hi0 hi1 hi2 hi3
          go_cut [24, 25] from 134 to 145 (fun s24 s25 wx => ∃ (A5 A6 : Option Addr) (q5 q6 : Nat), s24 = .slice A5 N q5 ∧ s25 = .slice A6 N q6 ∧ Kit.Rd wx wx.heap.size A5 (I32v (List.replicate N 0)) ∧ Kit.Rd wx wx.heap.size A6 (I32v (rowL F2 N)) ∧ Below W2.heap.size W2 wx)
          case first =>
            refine wp_region_held_drew (S := fun _ => True) (by kernel_rfl) trivial (fun hHeld => ?_)
            refine wpAnyH_take (i := 0) (oi := ({ dst := some 134, op := Op.move (Operand.tmp 13), type := 3, pos := "law.go:54", after := #[], guard := none } : Oper)) (v := ?_) rfl (by kernel_rfl) (by kernel_rfl) (by kernel_rfl) (fun _ _ _ h => h) (Or.inl ⟨by rfl, ?_⟩) (by assumption) ?_
            rotate_left
            · intro wS hSw
              first
                | (go_simp; done)
                | (go_simp; with_reducible rfl)
            try simp only [Act.put, List.setIfInBounds_toArray, List.set_cons_zero, List.set_cons_succ]
            refine wpAnyH_take (i := 1) (oi := ({ dst := some 135, op := Op.move (Operand.tmp 15), type := 3, pos := "law.go:54", after := #[], guard := none } : Oper)) (v := ?_) rfl (by kernel_rfl) (by kernel_rfl) (by kernel_rfl) (fun _ _ _ h => h) (Or.inl ⟨by rfl, ?_⟩) (by assumption) ?_
            rotate_left
            · intro wS hSw
              first
                | (go_simp; done)
                | (go_simp; with_reducible rfl)
            try simp only [Act.put, List.setIfInBounds_toArray, List.set_cons_zero, List.set_cons_succ]
            refine wpAnyH_take (i := 2) (oi := ({ dst := some 136, op := Op.binOp BinOp.mul 3 (Operand.tmp 134) (Operand.tmp 135) 3, type := 3, pos := "law.go:54", after := #[{ on := 0, ground := Ground.data }, { on := 1, ground := Ground.data }], guard := none } : Oper)) (v := ?_) rfl (by kernel_rfl) (by kernel_rfl) (by kernel_rfl) (fun _ _ _ h => h) (Or.inl ⟨by rfl, ?_⟩) (by assumption) ?_
            rotate_left
            · intro wS hSw
              first
                | (go_simp; done)
                | (go_simp; with_reducible rfl)
            try simp only [Act.put, List.setIfInBounds_toArray, List.set_cons_zero, List.set_cons_succ]
            refine wpAnyH_take (i := 4) (oi := ({ dst := some 138, op := Op.move (Operand.tmp 19), type := 22, pos := "law.go:54", after := #[], guard := none } : Oper)) (v := ?_) rfl (by kernel_rfl) (by kernel_rfl) (by kernel_rfl) (fun _ _ _ h => h) (Or.inl ⟨by rfl, ?_⟩) (by assumption) ?_
            rotate_left
            · intro wS hSw
              first
                | (go_simp; done)
                | (go_simp; with_reducible rfl)
            try simp only [Act.put, List.setIfInBounds_toArray, List.set_cons_zero, List.set_cons_succ]
            refine wpAnyH_take (i := 5) (oi := ({ dst := some 139, op := Op.move (Operand.tmp 21), type := 23, pos := "law.go:54", after := #[], guard := none } : Oper)) (v := ?_) rfl (by kernel_rfl) (by kernel_rfl) (by kernel_rfl) (fun _ _ _ h => h) (Or.inl ⟨by rfl, ?_⟩) (by assumption) ?_
            rotate_left
            · intro wS hSw
              first
                | (go_simp; done)
                | (go_simp; with_reducible rfl)
            try simp only [Act.put, List.setIfInBounds_toArray, List.set_cons_zero, List.set_cons_succ]
            refine wpAnyH_take (i := 6) (oi := ({ dst := some 140, op := Op.move (Operand.tmp 13), type := 3, pos := "law.go:54", after := #[], guard := none } : Oper)) (v := ?_) rfl (by kernel_rfl) (by kernel_rfl) (by kernel_rfl) (fun _ _ _ h => h) (Or.inl ⟨by rfl, ?_⟩) (by assumption) ?_
            rotate_left
            · intro wS hSw
              first
                | (go_simp; done)
                | (go_simp; with_reducible rfl)
            try simp only [Act.put, List.setIfInBounds_toArray, List.set_cons_zero, List.set_cons_succ]
            refine wpAnyH_take (i := 7) (oi := ({ dst := some 141, op := Op.move (Operand.tmp 14), type := 3, pos := "law.go:54", after := #[], guard := none } : Oper)) (v := ?_) rfl (by kernel_rfl) (by kernel_rfl) (by kernel_rfl) (fun _ _ _ h => h) (Or.inl ⟨by rfl, ?_⟩) (by assumption) ?_
            rotate_left
            · intro wS hSw
              first
                | (go_simp; done)
                | (go_simp; with_reducible rfl)
            try simp only [Act.put, List.setIfInBounds_toArray, List.set_cons_zero, List.set_cons_succ]
            refine wpAnyH_take (i := 8) (oi := ({ dst := some 142, op := Op.move (Operand.tmp 16), type := 3, pos := "law.go:54", after := #[], guard := none } : Oper)) (v := ?_) rfl (by kernel_rfl) (by kernel_rfl) (by kernel_rfl) (fun _ _ _ h => h) (Or.inl ⟨by rfl, ?_⟩) (by assumption) ?_
            rotate_left
            · intro wS hSw
              first
                | (go_simp; done)
                | (go_simp; with_reducible rfl)
            try simp only [Act.put, List.setIfInBounds_toArray, List.set_cons_zero, List.set_cons_succ]
            refine wpAnyH_take (i := 9) (oi := ({ dst := some 143, op := Op.binOp BinOp.sub 3 (Operand.tmp 141) (Operand.tmp 142) 3, type := 3, pos := "law.go:54", after := #[{ on := 7, ground := Ground.data }, { on := 8, ground := Ground.data }], guard := none } : Oper)) (v := ?_) rfl (by kernel_rfl) (by kernel_rfl) (by kernel_rfl) (fun _ _ _ h => h) (Or.inl ⟨by rfl, ?_⟩) (by assumption) ?_
            rotate_left
            · intro wS hSw
              first
                | (go_simp; done)
                | (go_simp; with_reducible rfl)
            try simp only [Act.put, List.setIfInBounds_toArray, List.set_cons_zero, List.set_cons_succ]
            refine wpAnyH_take (i := 10) (oi := ({ dst := some 144, op := Op.move (Operand.tmp 15), type := 3, pos := "law.go:54", after := #[], guard := none } : Oper)) (v := ?_) rfl (by kernel_rfl) (by kernel_rfl) (by kernel_rfl) (fun _ _ _ h => h) (Or.inl ⟨by rfl, ?_⟩) (by assumption) ?_
            rotate_left
            · intro wS hSw
              first
                | (go_simp; done)
                | (go_simp; with_reducible rfl)
            try simp only [Act.put, List.setIfInBounds_toArray, List.set_cons_zero, List.set_cons_succ]
            refine wpAnyH_ready (rs := [3, 11]) (by kernel_rfl) (by simp) ?_
            refine AllReadyH.cons (o := ({ dst := some 137, op := Op.makeSlice 26 (Operand.tmp 136) (Operand.tmp 136), type := 26, pos := "law.go:54", after := #[{ on := 2, ground := Ground.data }, { on := 2, ground := Ground.data }], guard := none } : Oper)) rfl (fun K hK => ?_) ?_
            · go_simp
              refine hK.out _ _ ?_ (fun hHeld => ?_)
              · trivial
              clear hK K
              try simp only [Act.put, List.setIfInBounds_toArray, List.set_cons_zero, List.set_cons_succ]
              refine wpAnyH_ready (rs := [11]) (by kernel_rfl) (by simp) ?_
              refine AllReadyH.cons (o := ({ dst := some 145, op := Op.call { callee := Callee.value (Operand.func 8), args := #[Operand.tmp 138, Operand.tmp 139, Operand.tmp 140, Operand.tmp 143, Operand.tmp 144], argTypes := #[22, 23, 3, 3, 3] }, type := 26, pos := "law.go:54", after := #[{ on := 4, ground := Ground.data }, { on := 5, ground := Ground.data }, { on := 6, ground := Ground.data }, { on := 9, ground := Ground.data }, { on := 10, ground := Ground.data }], guard := none } : Oper)) rfl (fun K hK => ?_) (AllReadyH.nil)
              go_simp
              go_at_call 8
              have hal : Below W2.heap.size W2 (W2.drew.alloc (.cells (List.replicate N (.int .i32 0)).toArray 21)) := (Below.refl _ _).drew.alloc (Nat.le_refl _) _
              have hz := Kit.Rd.new W2.drew (List.replicate N (.int .i32 0)) 21 (B := W2.heap.size + 1) (Nat.lt_succ_self _)
              refine (HM2.out _ ((RQ2.out.below hal).more hal.size) ((RQ3.out.below hal).more hal.size)).mono ?_
              rintro e w9 ⟨v9, rfl, ho9, hb9⟩
              obtain ⟨A9, q9, rfl, -, -, hrd9⟩ := Kit.own_rd ho9
              have R5 : Kit.Rd w9 w9.heap.size (some ⟨W2.heap.size, 0, none⟩) (I32v (List.replicate N 0)) := by
                have h := (hz.below (hb9.mono (by simp))).more (B' := w9.heap.size) (by have := hb9.size; simpa using this)
                simpa [I32v] using h
              have hbb : Below W2.heap.size W2 w9 := hal.trans (hb9.mono hal.size)
              clear hz hal hb9 ho9
              dsimp only
              refine hK.out _ _ ?_ (fun hHeld => ?_)
              · trivial
              clear hK K
              try simp only [Act.put, List.setIfInBounds_toArray, List.set_cons_zero, List.set_cons_succ]
              refine wpAnyH_take (i := 12) (oi := ({ dst := some 24, op := Op.assign (Operand.tmp 137), type := 26, pos := "law.go:54", after := #[{ on := 3, ground := Ground.data }, { on := 11, ground := Ground.chain }, { on := 0, ground := Ground.phase }, { on := 1, ground := Ground.phase }, { on := 2, ground := Ground.phase }, { on := 3, ground := Ground.phase }, { on := 4, ground := Ground.textOnly Departure.lateStores }, { on := 5, ground := Ground.textOnly Departure.lateStores }, { on := 6, ground := Ground.textOnly Departure.lateStores }, { on := 7, ground := Ground.textOnly Departure.lateStores }, { on := 8, ground := Ground.textOnly Departure.lateStores }, { on := 9, ground := Ground.textOnly Departure.lateStores }, { on := 10, ground := Ground.textOnly Departure.lateStores }, { on := 11, ground := Ground.textOnly Departure.lateStoresUnsure }], guard := none } : Oper)) (v := ?_) rfl (by kernel_rfl) (by kernel_rfl) (by kernel_rfl) (fun _ _ _ h => h) (Or.inl ⟨by rfl, ?_⟩) (by assumption) ?_
              rotate_left
              · intro wS hSw
                first
                  | (go_simp; done)
                  | (go_simp; with_reducible rfl)
              try simp only [Act.put, List.setIfInBounds_toArray, List.set_cons_zero, List.set_cons_succ]
              refine wpAnyH_take (i := 13) (oi := ({ dst := some 25, op := Op.assign (Operand.tmp 145), type := 26, pos := "law.go:54", after := #[{ on := 11, ground := Ground.data }, { on := 12, ground := Ground.chain }, { on := 0, ground := Ground.phase }, { on := 1, ground := Ground.phase }, { on := 2, ground := Ground.phase }, { on := 3, ground := Ground.phase }, { on := 4, ground := Ground.phase }, { on := 5, ground := Ground.phase }, { on := 6, ground := Ground.phase }, { on := 7, ground := Ground.phase }, { on := 8, ground := Ground.phase }, { on := 9, ground := Ground.phase }, { on := 10, ground := Ground.phase }, { on := 11, ground := Ground.phase }, { on := 12, ground := Ground.phase }], guard := none } : Oper)) (v := ?_) rfl (by kernel_rfl) (by kernel_rfl) (by kernel_rfl) (fun _ _ _ h => h) (Or.inl ⟨by rfl, ?_⟩) (by assumption) ?_
              rotate_left
              · intro wS hSw
                first
                  | (go_simp; done)
                  | (go_simp; with_reducible rfl)
              try simp only [Act.put, List.setIfInBounds_toArray, List.set_cons_zero, List.set_cons_succ]
              refine wpAnyH_done (by kernel_rfl) ?_ _
              go_wp2_with fail
              go_meet
              exact ⟨_, _, _, _, rfl, rfl, R5, hrd9, hbb⟩
            refine AllReadyH.cons (o := ({ dst := some 145, op := Op.call { callee := Callee.value (Operand.func 8), args := #[Operand.tmp 138, Operand.tmp 139, Operand.tmp 140, Operand.tmp 143, Operand.tmp 144], argTypes := #[22, 23, 3, 3, 3] }, type := 26, pos := "law.go:54", after := #[{ on := 4, ground := Ground.data }, { on := 5, ground := Ground.data }, { on := 6, ground := Ground.data }, { on := 9, ground := Ground.data }, { on := 10, ground := Ground.data }], guard := none } : Oper)) rfl (fun K hK => ?_) ?_
            · go_simp
              go_at_call 8
              refine (HM2.out W2.drew RQ2.out.drew RQ3.out.drew).mono ?_
              rintro e w9 ⟨v9, rfl, ho9, hb9⟩
              obtain ⟨A9, q9, rfl, -, -, hrd9⟩ := Kit.own_rd ho9
              have hbb : Below W2.heap.size W2 w9 := (Below.refl _ _).drew.trans hb9
              clear hb9 ho9
              dsimp only
              refine hK.out _ _ ?_ (fun hHeld => ?_)
              · trivial
              clear hK K
              try simp only [Act.put, List.setIfInBounds_toArray, List.set_cons_zero, List.set_cons_succ]
              refine wpAnyH_ready (rs := [3]) (by kernel_rfl) (by simp) ?_
              refine AllReadyH.cons (o := ({ dst := some 137, op := Op.makeSlice 26 (Operand.tmp 136) (Operand.tmp 136), type := 26, pos := "law.go:54", after := #[{ on := 2, ground := Ground.data }, { on := 2, ground := Ground.data }], guard := none } : Oper)) rfl (fun K hK => ?_) (AllReadyH.nil)
              go_simp
              refine hK.out _ _ ?_ (fun hHeld => ?_)
              · trivial
              clear hK K
              try simp only [Act.put, List.setIfInBounds_toArray, List.set_cons_zero, List.set_cons_succ]
              refine wpAnyH_take (i := 12) (oi := ({ dst := some 24, op := Op.assign (Operand.tmp 137), type := 26, pos := "law.go:54", after := #[{ on := 3, ground := Ground.data }, { on := 11, ground := Ground.chain }, { on := 0, ground := Ground.phase }, { on := 1, ground := Ground.phase }, { on := 2, ground := Ground.phase }, { on := 3, ground := Ground.phase }, { on := 4, ground := Ground.textOnly Departure.lateStores }, { on := 5, ground := Ground.textOnly Departure.lateStores }, { on := 6, ground := Ground.textOnly Departure.lateStores }, { on := 7, ground := Ground.textOnly Departure.lateStores }, { on := 8, ground := Ground.textOnly Departure.lateStores }, { on := 9, ground := Ground.textOnly Departure.lateStores }, { on := 10, ground := Ground.textOnly Departure.lateStores }, { on := 11, ground := Ground.textOnly Departure.lateStoresUnsure }], guard := none } : Oper)) (v := ?_) rfl (by kernel_rfl) (by kernel_rfl) (by kernel_rfl) (fun _ _ _ h => h) (Or.inl ⟨by rfl, ?_⟩) (by assumption) ?_
              rotate_left
              · intro wS hSw
                first
                  | (go_simp; done)
                  | (go_simp; with_reducible rfl)
              try simp only [Act.put, List.setIfInBounds_toArray, List.set_cons_zero, List.set_cons_succ]
              refine wpAnyH_take (i := 13) (oi := ({ dst := some 25, op := Op.assign (Operand.tmp 145), type := 26, pos := "law.go:54", after := #[{ on := 11, ground := Ground.data }, { on := 12, ground := Ground.chain }, { on := 0, ground := Ground.phase }, { on := 1, ground := Ground.phase }, { on := 2, ground := Ground.phase }, { on := 3, ground := Ground.phase }, { on := 4, ground := Ground.phase }, { on := 5, ground := Ground.phase }, { on := 6, ground := Ground.phase }, { on := 7, ground := Ground.phase }, { on := 8, ground := Ground.phase }, { on := 9, ground := Ground.phase }, { on := 10, ground := Ground.phase }, { on := 11, ground := Ground.phase }, { on := 12, ground := Ground.phase }], guard := none } : Oper)) (v := ?_) rfl (by kernel_rfl) (by kernel_rfl) (by kernel_rfl) (fun _ _ _ h => h) (Or.inl ⟨by rfl, ?_⟩) (by assumption) ?_
              rotate_left
              · intro wS hSw
                first
                  | (go_simp; done)
                  | (go_simp; with_reducible rfl)
              try simp only [Act.put, List.setIfInBounds_toArray, List.set_cons_zero, List.set_cons_succ]
              refine wpAnyH_done (by kernel_rfl) ?_ _
              go_wp2_with fail
              go_meet
              have hal : Below w9.heap.size w9 (w9.alloc (.cells (List.replicate N (.int .i32 0)).toArray 21)) := (Below.refl _ _).alloc (Nat.le_refl _) _
              refine ⟨_, _, _, _, rfl, rfl, ?_, (hrd9.below hal).more hal.size, hbb.trans (hal.mono hbb.size)⟩
              have h := Kit.Rd.new w9 (List.replicate N (.int .i32 0)) 21 (B := w9.heap.size + 1) (Nat.lt_succ_self _)
              simpa [I32v] using h
            exact AllReadyH.nil
          case rest =>
          obtain ⟨A5, A6, q5, q6, rfl, rfl, hr5, hr6, hb3⟩ := hcut
          have R3 := Lib.hid ((R2.out.below hb3).more hb3.size)
          have RP4 := Lib.hid ((RP2.out.below hb3).more hb3.size)
          have RP5 := Lib.hid ((RP3.out.below hb3).more hb3.size)
          have HB3 := Lib.hid (HB2.out.trans (hb3.mono HB2.out.size))
          have R5 := Lib.hid hr5
          have R6 := Lib.hid hr6
          clear hb3 hr5 hr6 R2 RP2 RP3 RQ2 RQ3 HB2 hmk HM2
          generalize wc = W3 at R3 RP4 RP5 HB3 R5 R6 ⊢
          go_upto_if 147 with fail
          go_cut [24] from 146 to 153 (fun s24 wx => ∃ (A7 : Option Addr) (q7 : Nat), s24 = .slice A7 N q7 ∧ Kit.Rd wx wx.heap.size A7 (I32v (rowL F1 N)) ∧ Below W3.heap.size W3 wx)
          case first =>
            by_cases h0 : 0 < at_
            · have h0I : (0 : Int) < (at_ : Int) := by omega
              go_wp2_with (go_at_call 8; (refine (HM1'.out h0 _ RP4.out RP5.out).mono ?_); rintro e w9 ⟨v9, rfl, ho9, hb9⟩; obtain ⟨A9, q9, rfl, -, -, hrd9⟩ := Kit.own_rd ho9; clear ho9)
              go_meet
              exact ⟨_, _, rfl, hrd9, hb9⟩
            · have h0I : ¬ (0 : Int) < (at_ : Int) := by omega
              go_wp2_with fail
              go_meet
              exact ⟨_, _, rfl, by rw [HZ1.out (by omega)]; exact R5.out, Below.refl _ _⟩
          case rest =>
          obtain ⟨A7, q7, rfl, hr7, hb7⟩ := hcut
          have R8 := Lib.hid ((R3.out.below hb7).more hb7.size)
          have R9 := Lib.hid ((R6.out.below hb7).more hb7.size)
          have HB4 := Lib.hid (HB3.out.trans (hb7.mono HB3.out.size))
          have R7 := Lib.hid hr7
          clear hb7 hr7 R3 RP4 RP5 HB3 R5 R6 HM1' HZ1
          generalize wc = W4 at R7 R8 R9 HB4 ⊢
          go_wp2_with fail
          go_loopw [26] (fun i wr => ∃ l nq : Nat, l ≤ N ∧ i = .int .i64 l ∧ Hid (wr = W4.drewN nq)) (fun i _ => N - (intOf i).toNat)
          case atStart => exact ⟨0, 0, Nat.zero_le _, rfl, Lib.hid rfl⟩
          case round =>
            obtain ⟨l, nq, hl, rfl, hw⟩ := hrel
            obtain rfl := hw.out
            clear hw
            by_cases hlt : l < N
            · obtain ⟨x1, y1, rfl, -, hcx⟩ := ints_getD R8.out (j := 0) (by rw [rowL_len]; omega)
              obtain ⟨x2, y2, rfl, -, hcy⟩ := ints_getD R7.out (j := 0) (by rw [rowL_len]; omega)
              obtain ⟨x3, y3, rfl, -, hcz⟩ := ints_getD R9.out (j := 0) (by rw [rowL_len]; omega)
              have k1 := hcx l (by rw [rowL_len]; omega)
              have k2 := hcy l (by rw [rowL_len]; omega)
              have k3 := hcz l (by rw [rowL_len]; omega)
              rw [rowL_getD _ hlt] at k1 k2 k3
              have hs := HSUM.out l hlt
              clear hcx hcy hcz
              generalize F l = z1 at k1 hs
              generalize F1 l = z2 at k2 hs
              generalize F2 l = z3 at k3 hs
              have h0 : (0 : Int) ≤ (l : Int) := by omega
              have h1 : (l : Int) < (N : Int) := by omega
              go_wp2_with fail
              go_quiet (fail)
              go_wp2
              go_roundw
              case rel => exact ⟨l + 1, _, by omega, by go_num, Lib.hid rfl⟩
              case measure => simp [intOf]; omega
            · obtain rfl : l = N := by omega
              go_wp2_with (go_at_call 6; (refine (known12 _).mono ?_); rintro e w' ⟨rfl, hb⟩; (have HB := Lib.hid ((Kit.below_drewN HB4.out nq).trans (hb.mono HB4.out.size))); clear hb)
              go_ret
              exact ⟨rfl, HB.out⟩
set_option maxRecDepth 100000 in
set_option maxHeartbeats 4000000 in
theorem walk_short {w : World} (A : Option Addr) (n1 c1 : Nat) (B : Option Addr) (n2 c2 : Nat) (r0 m0 k0 t0 n m k : Nat) (b1 : r0 ≤ 255) (b2 : m0 ≤ 255) (b3 : k0 ≤ 255) (hn : r0 % 6 + 1 = n) (hm : m0 % 20 + 1 = m) (hk : k0 % 6 + 1 = k) (hs : n1 < n * m ∨ (n * m ≤ n1 ∧ n2 < k * m)) :
    Calls Try.prog 5 #[.slice A n1 c1, .slice B n2 c2, .int .u8 (r0 : Int), .int .u8 (m0 : Int), .int .u8 (k0 : Int), .int .u8 (t0 : Int)] w fun e w' => e = .returned (.bool true) ∧ Below w.heap.size w w' := by
  obtain ⟨p1, hp1⟩ : ∃ p, r0 % 6 = p := ⟨_, rfl⟩
  obtain ⟨p2, hp2⟩ : ∃ p, m0 % 20 = p := ⟨_, rfl⟩
  obtain ⟨p3, hp3⟩ : ∃ p, k0 % 6 = p := ⟨_, rfl⟩
  have hn6 : n ≤ 6 := by omega
  have hm20 : m ≤ 20 := by omega
  have hk6 : k ≤ 6 := by omega
  have d1 : (r0 : Int).tmod 6 = (p1 : Int) := by rw [Int.tmod_eq_emod_of_nonneg (by omega)]; omega
  have d2 : (m0 : Int).tmod 20 = (p2 : Int) := by rw [Int.tmod_eq_emod_of_nonneg (by omega)]; omega
  have d3 : (k0 : Int).tmod 6 = (p3 : Int) := by rw [Int.tmod_eq_emod_of_nonneg (by omega)]; omega
  have f1 : (r0 : Int) % 6 = (p1 : Int) := by omega
  have f2 : (m0 : Int) % 20 = (p2 : Int) := by omega
  have f3 : (k0 : Int) % 6 = (p3 : Int) := by omega
  have e1 : IntKind.u8.wrap (p1 : Int) = (p1 : Int) := by rw [IntKind.wrap_u8]; omega
  have e2 : IntKind.u8.wrap (p2 : Int) = (p2 : Int) := by rw [IntKind.wrap_u8]; omega
  have e3 : IntKind.u8.wrap (p3 : Int) = (p3 : Int) := by rw [IntKind.wrap_u8]; omega
  have i1 : IntKind.i64.wrap (p1 : Int) = (p1 : Int) := IntWalk.i64_in _ (by omega)
  have i2 : IntKind.i64.wrap (p2 : Int) = (p2 : Int) := IntWalk.i64_in _ (by omega)
  have i3 : IntKind.i64.wrap (p3 : Int) = (p3 : Int) := IntWalk.i64_in _ (by omega)
  have j1 : IntKind.i64.wrap ((p1 : Int) + 1) = (n : Int) := by rw [IntWalk.i64_in _ (by omega)]; omega
  have j2 : IntKind.i64.wrap ((p2 : Int) + 1) = (m : Int) := by rw [IntWalk.i64_in _ (by omega)]; omega
  have j3 : IntKind.i64.wrap ((p3 : Int) + 1) = (k : Int) := by rw [IntWalk.i64_in _ (by omega)]; omega
  obtain ⟨N1, hN1⟩ : ∃ N, n * m = N := ⟨_, rfl⟩
  obtain ⟨N2, hN2⟩ : ∃ N, k * m = N := ⟨_, rfl⟩
  have hN1b : N1 ≤ 120 := by rw [← hN1]; exact Nat.le_trans (Nat.mul_le_mul hn6 hm20) (by omega)
  have hN2b : N2 ≤ 120 := by rw [← hN2]; exact Nat.le_trans (Nat.mul_le_mul hk6 hm20) (by omega)
  have v1 : IntKind.i64.wrap ((n : Int) * (m : Int)) = (N1 : Int) := by rw [← Int.natCast_mul, hN1]; exact IntWalk.i64_in _ (by omega)
  have v2 : IntKind.i64.wrap ((k : Int) * (m : Int)) = (N2 : Int) := by rw [← Int.natCast_mul, hN2]; exact IntWalk.i64_in _ (by omega)
  rw [hN1, hN2] at hs
  clear hN1 hN2 hn hm hk hp1 hp2 hp3
  rcases hs with hs | ⟨hs1, hs2⟩
  all_goals
    go_enter Try.func5, Try.ntmps5
    go_wp2_with (go_at_call 6; (refine (known12 _).mono ?_); rintro e w' ⟨rfl, hb⟩)
    go_ret
    exact ⟨rfl, hb⟩
theorem walk {w : World} (A : Option Addr) (xs : List Int) (c1 : Nat) (hc1 : xs.length ≤ c1) (hm1 : c1 ≤ maxLen) (hw1 : ∀ n ∈ xs, (Lit.int .i16 n).wf = true) (hr1 : Kit.Rd w w.heap.size A (xs.map (.int .i16)))
    (B : Option Addr) (ys : List Int) (c2 : Nat) (hc2 : ys.length ≤ c2) (hm2 : c2 ≤ maxLen) (hw2 : ∀ n ∈ ys, (Lit.int .i8 n).wf = true) (hr2 : Kit.Rd w w.heap.size B (ys.map (.int .i8)))
    (r0 : Int) (wr : (Lit.int .u8 r0).wf = true) (m0 : Int) (wm : (Lit.int .u8 m0).wf = true) (k0 : Int) (wk : (Lit.int .u8 k0).wf = true) (t0 : Int) (wt : (Lit.int .u8 t0).wf = true) :
    Calls Try.prog 5 #[.slice A xs.length c1, .slice B ys.length c2, .int .u8 r0, .int .u8 m0, .int .u8 k0, .int .u8 t0] w fun e w' => e = .returned (.bool true) ∧ Below w.heap.size w w' := by
  obtain ⟨x1, y1⟩ := u8_bd wr
  obtain ⟨x2, y2⟩ := u8_bd wm
  obtain ⟨x3, y3⟩ := u8_bd wk
  obtain ⟨x4, y4⟩ := u8_bd wt
  obtain ⟨r0, rfl⟩ := Int.eq_ofNat_of_zero_le x1
  obtain ⟨m0, rfl⟩ := Int.eq_ofNat_of_zero_le x2
  obtain ⟨k0, rfl⟩ := Int.eq_ofNat_of_zero_le x3
  obtain ⟨t0, rfl⟩ := Int.eq_ofNat_of_zero_le x4
  by_cases hs : xs.length < (r0 % 6 + 1) * (m0 % 20 + 1) ∨ ((r0 % 6 + 1) * (m0 % 20 + 1) ≤ xs.length ∧ ys.length < (k0 % 6 + 1) * (m0 % 20 + 1))
  · exact walk_short A _ c1 B _ c2 r0 m0 k0 t0 _ _ _ (by omega) (by omega) (by omega) rfl rfl rfl hs
  · exact walk_yes A xs _ c1 rfl hc1 hm1 (i16_wf hw1) hr1 B ys _ c2 rfl hc2 hm2 (i8_wf hw2) hr2 r0 m0 k0 t0 _ _ _ _ (by omega) (by omega) (by omega) (by omega) rfl rfl rfl rfl (by omega) (by omega)
/-! ### the frame: written by program -/
theorem own : ownKnob Try.prog.godebug = none := by kernel_rfl
theorem laid : laidOutB Try.prog = true := by kernel_rfl
theorem contract {H : Type} {enc : TypeId × Value → H} {W : World} {base : Nat} {args : Array Value} {ds gs : List (DataW H)} {before : List MemPlace}
    (hval0 : ∀ (j : Nat) t v, Try.f5.params[j]? = some t → args[j]? = some v → Value.okWide Try.prog W .any base t v)
    (hW : DataW.Whole enc Try.prog Try.f5.params.toList Rows.gemmPartsSpec.vars false W args.toList ds gs before) :
    Calls Try.prog 5 args W fun e W' => e = .returned (.bool true) ∧ Below W.heap.size W W' := by
  have hval : ∀ (j : Nat) t v, Try.f5.params[j]? = some t → args[j]? = some v → Value.okWide Try.prog W .any base t v := hval0
  obtain ⟨p, q, hA0, hV, rfl, hfz, hnd⟩ := hW
  have hA : DataW.TrodAll enc Try.prog W 0 (fun _ => true) true Try.f5.params.toList args.toList ds p := hA0
  rw [Try.params5] at hA hval
  obtain ⟨v0, vs0, d0, ds0, p0, q0, hargs, rfl, rfl, h0, r0⟩ := trodAll_cons hA
  obtain ⟨v1, vs1, d1, ds1, p1, q1, rfl, rfl, rfl, h1, r1⟩ := trodAll_cons r0
  obtain ⟨v2, vs2, d2, ds2, p2, q2, rfl, rfl, rfl, h2, r2⟩ := trodAll_cons r1
  obtain ⟨v3, vs3, d3, ds3, p3, q3, rfl, rfl, rfl, h3, r3⟩ := trodAll_cons r2
  obtain ⟨v4, vs4, d4, ds4, p4, q4, rfl, rfl, rfl, h4, r4⟩ := trodAll_cons r3
  obtain ⟨v5, vs5, d5, ds5, p5, q5, rfl, rfl, rfl, h5, r5⟩ := trodAll_cons r4
  obtain ⟨rfl, rfl, rfl⟩ := trodAll_nil r5
  obtain rfl : args = #[v0, v1, v2, v3, v4, v5] := by cases args; simp_all
  clear hA0 hval0
  obtain ⟨A0, z0, c0, rfl, hc0, hm0, hw0, hr0⟩ := Kit.open_islice Try.underlying22 Try.underlying35 (by kernel_rfl) (hval 0 22 v0 rfl rfl) h0
  obtain ⟨A1, z1, c1, rfl, hc1, hm1, hw1, hr1⟩ := Kit.open_islice Try.underlying23 Try.underlying36 (by kernel_rfl) (hval 1 23 v1 rfl rfl) h1
  obtain ⟨a2, rfl, rfl, rfl, w2⟩ := open_int Try.underlying5 (hval 2 5 v2 rfl rfl) h2
  obtain ⟨a3, rfl, rfl, rfl, w3⟩ := open_int Try.underlying5 (hval 3 5 v3 rfl rfl) h3
  obtain ⟨a4, rfl, rfl, rfl, w4⟩ := open_int Try.underlying5 (hval 4 5 v4 rfl rfl) h4
  obtain ⟨a5, rfl, rfl, rfl, w5⟩ := open_int Try.underlying5 (hval 5 5 v5 rfl rfl) h5
  exact walk (w := W) A0 z0 c0 hc0 hm0 hw0 hr0 A1 z1 c1 hc1 hm1 hw1 hr1 a2 w2 a3 w3 a4 w4 a5 w5
theorem fnIs {H : Type} : ∀ ds : List (DataW H), ds.length = Try.f5.params.toList.length → Rows.gemmPartsSpec.fn H ds = { results := [.lit (.bool true)], args := ds } := by
  intro ds h
  rw [Try.params5] at h
  match ds, h with
  | [d1, d2, d3, d4, d5, d6], _ => rfl
set_option maxRecDepth 100000 in
theorem lifted (os : Os) (started : os.Started) (H : Type) (enc : TypeId × Value → H) :
    ReturnsInHanded {} Try.checked os 5 .any (Rows.gemmPartsSpec.pre6 enc Try.prog Try.f5 Rows.gemmPartsRow.domain false) (Rows.gemmPartsSpec.post enc Try.prog Try.f5 false true false false) := by
  refine returnsInHanded_of_change (C := Try.checked) own started (by kernel_rfl) Try.func5
    (ChangeSpec.witness6 (enc := enc) (C := Try.checked) false ⟨#[], #[.slice none 0 0, .slice none 0 0, .int .u8 0, .int .u8 0, .int .u8 0, .int .u8 0], []⟩ 8 (by kernel_rfl) (by kernel_rfl) (by kernel_rfl) (by kernel_rfl)) ?_
  intro W base args ds gs before hval hW _ _
  refine (contract hval hW).mono fun e W' ⟨he, hg⟩ => ?_
  subst he
  exact ⟨_, rfl, Kit.law_post (tb := 4) laid (by kernel_rfl) rfl (by kernel_rfl) Try.underlying4 fnIs hW hg⟩
theorem over : Rows.gemmPartsRow.holds Try.pinned (OpenSpec.ofChange Rows.gemmPartsSpec) :=
  OpenClaim.holds_of_wide 5 Try.f5 rfl rfl rfl rfl rfl rfl rfl ⟨rfl, rfl, rfl, rfl, rfl⟩ rfl rfl rfl rfl rfl (by kernel_rfl) Try.func5 (by kernel_rfl)
    (of_decide_eq_true (by kernel_rfl)) (by unfold Func.isWrapper; first | (rw [if_pos (by decide +kernel)]; kernel_rfl) | (rw [if_neg (by decide +kernel)]; exact ⟨rfl, rfl⟩))
    (fun os started H enc _ => lifted os started H enc)
/-- the statement. -/
theorem proved : Rows.GemmPartsSaid :=
  over
end Go.Proofs.Ytbkbflhjfmkcoaa.lawGemmParts
