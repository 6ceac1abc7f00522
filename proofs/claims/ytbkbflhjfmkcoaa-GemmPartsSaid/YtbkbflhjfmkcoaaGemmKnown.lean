/- Layer 12 (gemm): fixed calls, lists that are one, products of whatever matrices. -/
import Derived.Test.YtbkbflhjfmkcoaaGemmTurnC
namespace Go.Proofs.Ytbkbflhjfmkcoaa.CGemm
open Go Go.ChangeShapes Go.WideShapes Go.ChangeAt Go.RowKit
open Plain
set_option linter.unusedVariables false

set_option maxHeartbeats 2000000 in
theorem known12 (w : World) : Calls Try.prog 6 #[] w fun e w' => e = .returned (.bool true) ∧ Below w.heap.size w w' := by
  have hx : I16b [1, 2] := fun q => by rcases q with _ | _ | q <;> simp
  have hy : I8b [3, 4] := fun q => by rcases q with _ | _ | q <;> simp
  have hx2 : I16b [5] := fun q => by rcases q with _ | q <;> simp
  have hy2 : I8b [-2, 9] := fun q => by rcases q with _ | _ | q <;> simp
  have h1 : holdsB ((2 : Nat) : Int) ((1 : Nat) : Int) ((2 : Nat) : Int) = true := by decide
  have h11 : I32v (rowL (mulF [1, 2] [3, 4] 2 1) 1) = [.int .i32 11] := by
    simp [I32v, rowL, mulF, psum, IntKind.wrap_i32]
  have h10 : IntKind.i32.wrap (psum (dotF [5] [-2, 9]) 1) = -10 := by simp [psum, dotF, IntKind.wrap_i32]
  have HX := Lib.hid hx
  have HY := Lib.hid hy
  have HX2 := Lib.hid hx2
  have HY2 := Lib.hid hy2
  have H1 := Lib.hid h1
  have H11 := Lib.hid h11
  have H10 := Lib.hid h10
  clear hx hy hx2 hy2 h1 h11 h10
  go_enter Try.func6, Try.ntmps6
  go_wp2_with fail
  go_at_call 8
  have r1 : Kit.Rd ((w.alloc (.cells #[.int .i16 1, .int .i16 2] 35)).alloc (.cells #[.int .i8 3, .int .i8 4] 36)) ((w.alloc (.cells #[.int .i16 1, .int .i16 2] 35)).alloc (.cells #[.int .i8 3, .int .i8 4] 36)).heap.size (some ⟨w.heap.size, 0, none⟩) (List.map (Value.int .i16) [1, 2]) :=
    ((Kit.Rd.new w [.int .i16 1, .int .i16 2] 35 (Nat.lt_succ_self _)).alloc (by simp) _).more (by simp)
  have r2 : Kit.Rd ((w.alloc (.cells #[.int .i16 1, .int .i16 2] 35)).alloc (.cells #[.int .i8 3, .int .i8 4] 36)) ((w.alloc (.cells #[.int .i16 1, .int .i16 2] 35)).alloc (.cells #[.int .i8 3, .int .i8 4] 36)).heap.size (some ⟨w.heap.size + 1, 0, none⟩) (List.map (Value.int .i8) [3, 4]) := by
    have h := Kit.Rd.new (w.alloc (.cells #[.int .i16 1, .int .i16 2] 35)) [.int .i8 3, .int .i8 4] 36 (Nat.lt_succ_self _)
    rw [World.size_alloc w] at h
    exact h.more (by simp)
  refine (mul_yes _ _ [1, 2] [3, 4] 2 2 2 2 1 2 1 1 rfl rfl H1.out H1.out rfl (by omega) (by omega) (by omega) (by unfold maxLen; omega) (by unfold maxLen; omega) HX.out HY.out _ rfl _ r1 r2).mono ?_
  rintro e w1 ⟨v1, rfl, ho1, hb1⟩
  obtain ⟨g1, c1, rfl, hgb, hc1, hcm, -⟩ := Kit.own_form ho1 (by omega)
  have k0 : w1.cell? ⟨g1, 0, none⟩ = some (.int .i32 11) := by rw [ho1.cellAt 0 (by omega), H11.out]; rfl
  have hgs := Kit.block_lt_of_own ho1
  have HB : Hid (Below w.heap.size w w1) := Lib.hid (Below.trans (((Below.refl w.heap.size w).alloc (Nat.le_refl _) (.cells #[.int .i16 1, .int .i16 2] 35)).alloc (by simp) (.cells #[.int .i8 3, .int .i8 4] 36)) (hb1.mono (by simp; omega)))
  clear ho1 hb1 r1 r2 H11
  go_wp2_with fail
  go_at_call 10
  have r3 : Kit.Rd ((w1.alloc (.cells #[.int .i16 5] 35)).alloc (.cells #[.int .i8 (-2), .int .i8 9] 36)) (w1.heap.size + 1) (some ⟨w1.heap.size, 0, none⟩) (List.map (Value.int .i16) [5]) :=
    (Kit.Rd.new w1 [.int .i16 5] 35 (Nat.lt_succ_self _)).alloc (by simp) _
  have r4 : Kit.Rd ((w1.alloc (.cells #[.int .i16 5] 35)).alloc (.cells #[.int .i8 (-2), .int .i8 9] 36)) (w1.heap.size + 1 + 1) (some ⟨w1.heap.size + 1, 0, none⟩) (List.map (Value.int .i8) [-2, 9]) := by
    have h := Kit.Rd.new (w1.alloc (.cells #[.int .i16 5] 35)) [.int .i8 (-2), .int .i8 9] 36 (Nat.lt_succ_self _)
    rw [World.size_alloc w1] at h
    exact h
  refine (dot_to _ _ [5] [-2, 9] 1 2 1 2 1 rfl rfl (by omega) (by omega) (by omega) (by omega) (by unfold maxLen; omega) (by unfold maxLen; omega) HX2.out HY2.out _ r3 r4 (-10) H10.out).mono ?_
  rintro e w4 ⟨rfl, nq, rfl⟩
  clear r3 r4
  have HB2 : Hid (Below w.heap.size w (((w1.alloc (.cells #[.int .i16 5] 35)).alloc (.cells #[.int .i8 (-2), .int .i8 9] 36)).drewN nq)) := Lib.hid (Kit.below_drewN ((HB.out.alloc HB.out.size _).alloc (by have := HB.out.size; simp; omega) _) nq)
  go_wp2_with fail
  go_ret
  exact ⟨rfl, HB2.out⟩

/-- two lists of numbers that are one list. -/
theorem fsame32_yes (A B : Option Addr) (zs : List Int) (n c d : Nat) (hn : zs.length = n) (hl : n ≤ 1000000) (w : World) {B1 B2 : Nat} (ha : Kit.Rd w B1 A (zs.map (.int .i32))) (hb : Kit.Rd w B2 B (zs.map (.int .i32))) :
    Calls Try.prog 7 #[.slice A n c, .slice B n d] w fun e w' => e = .returned (.bool true) ∧ ∃ m, w' = w.drewN m := by
  subst hn
  have HA := Lib.hid ha
  have HB := Lib.hid hb
  clear ha hb
  go_enter Try.func7, Try.ntmps7
  go_wp2_with fail
  go_loopw [5] (fun i wr => ∃ k nq : Nat, k ≤ zs.length ∧ i = .int .i64 k ∧ Hid (wr = w.drewN nq)) (fun i _ => zs.length - (intOf i).toNat)
  case atStart => exact ⟨0, 0, Nat.zero_le _, rfl, Lib.hid rfl⟩
  case round =>
    obtain ⟨k, nq, hk, rfl, hw⟩ := hrel
    obtain rfl := hw.out
    clear hw
    by_cases hlt : k < zs.length
    · obtain ⟨b, off, rfl, _, hx⟩ := HA.out.ints hlt
      obtain ⟨b2, off2, rfl, _, hy⟩ := HB.out.ints hlt
      generalize zs[k] = x at hx hy
      have h0 : (0 : Int) ≤ (k : Int) := by omega
      have h1 : (k : Int) < (zs.length : Int) := by omega
      go_wp2_with fail
      go_quiet (fail)
      go_wp2
      go_roundw
      case rel => exact ⟨k + 1, _, by omega, by go_num, Lib.hid rfl⟩
      case measure => simp [intOf]; omega
    · go_wp2_with fail
      go_ret
      exact ⟨rfl, nq, rfl⟩
theorem fsame8_yes (A B : Option Addr) (zs : List Int) (n c d : Nat) (hn : zs.length = n) (hl : n ≤ 1000000) (w : World) {B1 B2 : Nat} (ha : Kit.Rd w B1 A (zs.map (.int .i8))) (hb : Kit.Rd w B2 B (zs.map (.int .i8))) :
    Calls Try.prog 14 #[.slice A n c, .slice B n d] w fun e w' => e = .returned (.bool true) ∧ ∃ m, w' = w.drewN m := by
  subst hn
  have HA := Lib.hid ha
  have HB := Lib.hid hb
  clear ha hb
  go_enter Try.func14, Try.ntmps14
  go_wp2_with fail
  go_loopw [5] (fun i wr => ∃ k nq : Nat, k ≤ zs.length ∧ i = .int .i64 k ∧ Hid (wr = w.drewN nq)) (fun i _ => zs.length - (intOf i).toNat)
  case atStart => exact ⟨0, 0, Nat.zero_le _, rfl, Lib.hid rfl⟩
  case round =>
    obtain ⟨k, nq, hk, rfl, hw⟩ := hrel
    obtain rfl := hw.out
    clear hw
    by_cases hlt : k < zs.length
    · obtain ⟨b, off, rfl, _, hx⟩ := HA.out.ints hlt
      obtain ⟨b2, off2, rfl, _, hy⟩ := HB.out.ints hlt
      generalize zs[k] = x at hx hy
      have h0 : (0 : Int) ≤ (k : Int) := by omega
      have h1 : (k : Int) < (zs.length : Int) := by omega
      go_wp2_with fail
      go_quiet (fail)
      go_wp2
      go_roundw
      case rel => exact ⟨k + 1, _, by omega, by go_num, Lib.hid rfl⟩
      case measure => simp [intOf]; omega
    · go_wp2_with fail
      go_ret
      exact ⟨rfl, nq, rfl⟩
/-- a call that only draws turns nothing. -/
theorem quiet_below {P : Program} {f : FuncId} {args : Array Value} {w : World} {v : Value} (h : Calls P f args w fun e w' => e = .returned v ∧ ∃ m, w' = w.drewN m) : Calls P f args w fun e w' => e = .returned v ∧ Below w.heap.size w w' :=
  h.mono fun e w' ⟨he, m, hw⟩ => ⟨he, by subst hw; exact Kit.below_drewN (Below.refl _ _) m⟩
theorem owned_none (w : World) (T : Nat) : Owned w T 0 [] (.returned (.slice none 0 0)) w := ⟨_, rfl, ⟨by simp, .inl ⟨rfl, rfl⟩⟩, Below.refl _ _⟩
theorem holds_nat {n : Nat} {r c : Int} (h : holdsB n r c = true) : ∃ a b : Nat, r = (a : Int) ∧ c = (b : Int) ∧ n = a * b ∧ 0 < a ∧ 0 < b ∧ a ≤ n ∧ b ≤ n := by
  obtain ⟨g1, g2, g3, g4, g5⟩ := holdsB_yes h
  obtain ⟨a, rfl⟩ := Int.eq_ofNat_of_zero_le (show 0 ≤ r by omega)
  obtain ⟨b, rfl⟩ := Int.eq_ofNat_of_zero_le (show 0 ≤ c by omega)
  have hn1 : n = a * b := by have := g5; rw [← Int.natCast_mul] at this; exact Int.ofNat.inj this
  exact ⟨a, b, rfl, rfl, hn1, by omega, by omega, by rw [hn1]; exact Nat.le_mul_of_pos_right _ (by omega), by rw [hn1]; exact Nat.le_mul_of_pos_left _ (by omega)⟩
/-- whatever the matrices: the code's product and the document's are one list. -/
theorem mul_both (A B : Option Addr) (xs ys : List Int) (n1 n2 c1 c2 : Nat) (r m c : Int) (hx : xs.length = n1) (hy : ys.length = n2) (h6 : n1 ≤ 600) (h6' : n2 ≤ 600)
    (hnc1 : n1 ≤ c1) (hnc2 : n2 ≤ c2) (hc1 : c1 ≤ maxLen) (hc2 : c2 ≤ maxLen) (hxb : I16b xs) (hyb : I8b ys) :
    ∃ (N : Nat) (zs : List Int), zs.length = N ∧ N ≤ 1000000 ∧
      (∀ w : World, Kit.Rd w w.heap.size A (xs.map (.int .i16)) → Kit.Rd w w.heap.size B (ys.map (.int .i8)) → Calls Try.prog 8 #[.slice A n1 c1, .slice B n2 c2, .int .i64 r, .int .i64 m, .int .i64 c] w (Owned w 21 N (I32v zs))) ∧
      (∀ w : World, Kit.Rd w w.heap.size A (xs.map (.int .i16)) → Kit.Rd w w.heap.size B (ys.map (.int .i8)) → Calls Try.prog 9 #[.slice A n1 c1, .slice B n2 c2, .int .i64 r, .int .i64 m, .int .i64 c] w (Owned w 21 N (I32v zs))) := by
  cases hh : holdsB n1 r m && holdsB n2 c m
  · refine ⟨0, [], rfl, by omega, fun w _ _ => (mul_no A B n1 n2 c1 c2 r m c hh w).mono ?_, fun w _ _ => (refMul_no A B n1 n2 c1 c2 r m c hh w).mono ?_⟩
    · rintro e w' ⟨rfl, rfl⟩
      exact owned_none _ _
    · rintro e w' ⟨rfl, rfl⟩
      exact owned_none _ _
  · simp only [Bool.and_eq_true] at hh
    obtain ⟨ha, hb⟩ := hh
    obtain ⟨a, b, rfl, rfl, -, -, -, h1, -⟩ := holds_nat ha
    obtain ⟨d, b', rfl, -, -, -, -, h2, -⟩ := holds_nat hb
    have hN : a * d ≤ 1000000 := Nat.le_trans (Nat.mul_le_mul (show a ≤ 600 by omega) (show d ≤ 600 by omega)) (by omega)
    exact ⟨a * d, _, rowL_len _ _, hN, fun w r1 r2 => mul_yes A B xs ys n1 n2 c1 c2 a b d _ hx hy ha hb rfl hN hnc1 hnc2 hc1 hc2 hxb hyb _ rfl w r1 r2,
      fun w r1 r2 => refMul_yes A B xs ys n1 n2 c1 c2 a b d _ hx hy ha hb rfl hN hnc1 hnc2 hc1 hc2 hxb hyb _ rfl w r1 r2⟩
theorem i16_bd {a : Int} (h : (Lit.int .i16 a).wf = true) : -32768 ≤ a ∧ a ≤ 32767 := by simpa [Lit.wf, IntKind.min, IntKind.max, IntKind.signed, IntKind.bits] using h
theorem i8_bd {a : Int} (h : (Lit.int .i8 a).wf = true) : -128 ≤ a ∧ a ≤ 127 := by simpa [Lit.wf, IntKind.min, IntKind.max, IntKind.signed, IntKind.bits] using h
theorem u8_bd {a : Int} (h : (Lit.int .u8 a).wf = true) : 0 ≤ a ∧ a ≤ 255 := by simpa [Lit.wf, IntKind.min, IntKind.max, IntKind.signed, IntKind.bits] using h
theorem i16_wf {zs : List Int} (h : ∀ n ∈ zs, (Lit.int .i16 n).wf = true) : I16b zs := fun q => by
  by_cases hq : q < zs.length
  · rw [List.getD_eq_getElem?_getD, List.getElem?_eq_getElem hq]
    exact i16_bd (h _ (List.getElem_mem hq))
  · rw [getD_none _ (by omega)]; omega
theorem i8_wf {zs : List Int} (h : ∀ n ∈ zs, (Lit.int .i8 n).wf = true) : I8b zs := fun q => by
  by_cases hq : q < zs.length
  · rw [List.getD_eq_getElem?_getD, List.getElem?_eq_getElem hq]
    exact i8_bd (h _ (List.getElem_mem hq))
  · rw [getD_none _ (by omega)]; omega
theorem turn_both (A : Option Addr) (xs : List Int) (n1 c1 : Nat) (r c : Int) (hx : xs.length = n1) (h6 : n1 ≤ 600) :
    ∃ (N : Nat) (zs : List Int), zs.length = N ∧ N ≤ 1000000 ∧ 
      (∀ w : World, Kit.Rd w w.heap.size A (xs.map (.int .i8)) → Calls Try.prog 12 #[.slice A n1 c1, .int .i64 r, .int .i64 c] w (Owned w 36 N (I8v zs))) ∧
      (∀ w : World, Kit.Rd w w.heap.size A (xs.map (.int .i8)) → Calls Try.prog 13 #[.slice A n1 c1, .int .i64 r, .int .i64 c] w (Owned w 36 N (I8v zs))) ∧
      (N = 0 ∨ (0 < N ∧ N = n1 ∧ ∀ (w : World) (B : Option Addr) (c2 : Nat), Kit.Rd w w.heap.size B (zs.map (.int .i8)) → Calls Try.prog 12 #[.slice B N c2, .int .i64 c, .int .i64 r] w (Owned w 36 n1 (I8v xs)))) := by
  cases hh : holdsB n1 r c
  · refine ⟨0, [], rfl, by omega, fun w _ => (turn_no A n1 c1 r c hh w).mono ?_, fun w _ => (refTurn_no A n1 c1 r c hh w).mono ?_, .inl rfl⟩
    · rintro e w' ⟨rfl, rfl⟩
      exact owned_none _ _
    · rintro e w' ⟨rfl, rfl⟩
      exact owned_none _ _
  · obtain ⟨a, b, rfl, rfl, hn, ha, hb, h1, h2⟩ := holds_nat hh
    obtain ⟨g1, g2, g3, g4, g5⟩ := holdsB_yes hh
    have hT : holdsB n1 (b : Int) (a : Int) = true := by simp only [holdsB, decide_eq_true_eq]; exact ⟨g3, g4, g1, g2, by rw [g5, Int.mul_comm]⟩
    refine ⟨n1, rowL (turnF xs a b) n1, rowL_len _ _, by omega, fun w r1 => turn_yes A xs n1 c1 a b hx hh (by omega) _ rfl w r1, fun w r1 => refTurn_yes A xs n1 c1 a b hx hh (by omega) _ rfl w r1, .inr ⟨by rw [hn]; exact Nat.mul_pos ha hb, rfl, fun w B c2 r2 => ?_⟩⟩
    have := turn_yes B (rowL (turnF xs a b) n1) n1 c2 b a (rowL_len _ _) hT (by omega) _ rfl w r2
    rwa [turn_twice xs hx ha hn] at this
end Go.Proofs.Ytbkbflhjfmkcoaa.CGemm
