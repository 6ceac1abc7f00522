/- Layer 18 (dense): the line, code and document; the fixed call. -/
import Derived.Test.YtfgjkfabgbhhfaaDenseRef
import Derived.Test.YtfgjkfabgbhhfaaConvBoth
namespace Go.Proofs.Ytfgjkfabgbhhfaa.CDense
open Go Go.ChangeShapes Go.WideShapes Go.ChangeAt Go.RowKit
open Plain CSat CShape CTensor CConv
set_option linter.unusedVariables false

theorem owned_nil (w w' : World) (T : TypeId) {e : Ending} (h : e = .returned (.slice none 0 0) ∧ w' = w) : Owned w T 0 (I32v []) e w' := by
  obtain ⟨rfl, rfl⟩ := h
  exact ⟨_, rfl, World.ownsRow_nil _ _ _ _, Below.refl _ _⟩
theorem line_both (A : Option Addr) (zs : List Int) (n c : Nat) (hn : zs.length = n) (hn2 : n ≤ 1000000) (hz : I8b zs) (WA : Option Addr) (ws : List Int) (nW cW : Nat) (hws : ws.length = nW) (hwc : nW ≤ cW) (hwb : I8b ws) (hW2 : nW ≤ 1000000)
    (BA : Option Addr) (bs : List Int) (nB cB : Nat) (hbs : bs.length = nB) (hb32 : ∀ q, -2147483648 ≤ bs.getD q 0 ∧ bs.getD q 0 ≤ 2147483647) (hB2 : nB ≤ 1000000) (Z : Int) (z1 : -128 ≤ Z) (z2 : Z ≤ 127) :
    ∃ (m : Nat) (ys : List Int), ys.length = m ∧ m ≤ 1000000 ∧
      (∀ w : World, Kit.Rd w w.heap.size A (I8s zs) → Kit.Rd w w.heap.size WA (I8s ws) → Kit.Rd w w.heap.size BA (I32v bs) → Calls Try.prog 8 #[.slice A n c, .slice WA nW cW, .slice BA nB cB, .int .i8 Z] w (Owned w 21 m (I32v ys))) ∧
      (∀ w : World, Kit.Rd w w.heap.size A (I8s zs) → Kit.Rd w w.heap.size WA (I8s ws) → Kit.Rd w w.heap.size BA (I32v bs) → Calls Try.prog 9 #[.slice A n c, .slice WA nW cW, .slice BA nB cB, .int .i8 Z] w (Owned w 21 m (I32v ys))) := by
  by_cases h : 1 ≤ n ∧ 1 ≤ nB ∧ n * nB = nW
  · obtain ⟨h1, h2, h3⟩ := h
    exact ⟨nB, rowL (lineF zs ws bs n Z) nB, rowL_len _ _, hB2,
      fun w r1 r2 r3 => line_yes A zs n c hn h1 hn2 hz WA ws nW cW hws hwc hwb BA bs nB cB hbs h2 hB2 h3 hW2 Z z1 z2 _ (fun _ => rfl) w r1 r2 r3,
      fun w r1 r2 r3 => refLine_yes A zs n c hn h1 hn2 hz WA ws nW cW hws hwb BA bs nB cB hbs hb32 h2 hB2 h3 hW2 Z z1 z2 _ (fun _ => rfl) w r1 r2 r3⟩
  · exact ⟨0, [], rfl, by omega,
      fun w _ _ _ => (line_no A WA BA n c nW cW nB cB h hn2 hB2 Z w).mono fun e w' h => owned_nil w w' _ h,
      fun w _ _ _ => (refLine_no A WA BA n c nW cW nB cB h hn2 hB2 Z w).mono fun e w' h => owned_nil w w' _ h⟩
theorem line_known (A WA BA : Option Addr) (w : World) (r1 : Kit.Rd w w.heap.size A (I8s [1, 2])) (r2 : Kit.Rd w w.heap.size WA (I8s [10, 100, 1, 0])) (r3 : Kit.Rd w w.heap.size BA (I32v [5, 6])) :
    Calls Try.prog 8 #[.slice A 2 2, .slice WA 4 4, .slice BA 2 2, .int .i8 0] w (Owned w 21 2 (I32v [215, 7])) := by
  have h := line_yes A [1, 2] 2 2 rfl (by omega) (by omega) (fun q => by rcases q with _ | _ | q <;> simp) WA [10, 100, 1, 0] 4 4 rfl (by omega) (fun q => by rcases q with _ | _ | _ | _ | q <;> simp) BA [5, 6] 2 2 rfl (by omega) (by omega) rfl (by omega) 0 (by omega) (by omega) _ (fun _ => rfl) w r1 r2 r3
  have e : I32v (rowL (lineF [1, 2] [10, 100, 1, 0] [5, 6] 2 0) 2) = I32v [215, 7] := by
    simp [I32v, rowL, List.range_succ, lineF, termF, psum, IntKind.wrap_i32]
  rw [e] at h
  exact h
set_option maxHeartbeats 1000000 in
theorem known18 (w : World) : Calls Try.prog 6 #[] w fun e w' => e = .returned (.bool true) ∧ Below w.heap.size w w' := by
  go_enter Try.func6, Try.ntmps6
  go_wp2_with fail
  go_at_call 8
  obtain ⟨W1, hW1⟩ : ∃ W1, w.alloc (.cells #[.int .i8 1, .int .i8 2] 24) = W1 := ⟨_, rfl⟩
  have b1 : Below w.heap.size w W1 := by rw [← hW1]; exact (Below.refl _ _).alloc (Nat.le_refl _) _
  have s1 : W1.heap.size = w.heap.size + 1 := by rw [← hW1]; simp
  have r1 : Kit.Rd W1 W1.heap.size (some ⟨w.heap.size, 0, none⟩) (I8s [1, 2]) := by rw [← hW1]; exact (Kit.Rd.new w [.int .i8 1, .int .i8 2] 24 (Nat.lt_succ_self _)).more (by simp)
  rw [hW1]
  obtain ⟨W2, hW2⟩ : ∃ W2, W1.alloc (.cells #[.int .i8 10, .int .i8 100, .int .i8 1, .int .i8 0] 24) = W2 := ⟨_, rfl⟩
  have b2 : Below W1.heap.size W1 W2 := by rw [← hW2]; exact (Below.refl _ _).alloc (Nat.le_refl _) _
  have s2 : W2.heap.size = W1.heap.size + 1 := by rw [← hW2]; simp
  have r2 : Kit.Rd W2 W2.heap.size (some ⟨W1.heap.size, 0, none⟩) (I8s [10, 100, 1, 0]) := by rw [← hW2]; exact (Kit.Rd.new W1 [.int .i8 10, .int .i8 100, .int .i8 1, .int .i8 0] 24 (Nat.lt_succ_self _)).more (by simp)
  rw [hW2]
  obtain ⟨W3, hW3⟩ : ∃ W3, W2.alloc (.cells #[.int .i32 5, .int .i32 6] 21) = W3 := ⟨_, rfl⟩
  have b3 : Below W2.heap.size W2 W3 := by rw [← hW3]; exact (Below.refl _ _).alloc (Nat.le_refl _) _
  have s3 : W3.heap.size = W2.heap.size + 1 := by rw [← hW3]; simp
  have r3 : Kit.Rd W3 W3.heap.size (some ⟨W2.heap.size, 0, none⟩) (I32v [5, 6]) := by rw [← hW3]; exact (Kit.Rd.new W2 [.int .i32 5, .int .i32 6] 21 (Nat.lt_succ_self _)).more (by simp)
  rw [hW3]
  rw [s2, s1] at r3
  rw [s1] at r2
  have R1 := Lib.hid ((((r1.below b2).more b2.size).below b3).more b3.size)
  have R2 := Lib.hid ((r2.below b3).more b3.size)
  have R3 := Lib.hid r3
  have HB := Lib.hid (b1.trans ((b2.trans (b3.mono b2.size)).mono b1.size))
  clear r1 r2 r3 b1 b2 b3 s1 s2 s3 hW1 hW2 hW3
  refine (line_known _ _ _ W3 R1.out R2.out R3.out).mono ?_
  rintro e w1 ⟨v1, rfl, ho1, hb1⟩
  obtain ⟨A1, c1, rfl, -, -, hrd⟩ := Kit.own_rd ho1
  have RA := Lib.hid hrd
  replace HB := Lib.hid (HB.out.trans (hb1.mono HB.out.size))
  clear ho1 hb1 hrd R1 R2 R3
  go_wp2_with fail
  go_at_call 7
  have RN := Lib.hid (Kit.Rd.new w1 [.int .i32 215, .int .i32 7] 21 (Nat.lt_succ_self _))
  refine (fsame32_yes A1 _ [215, 7] 2 c1 2 rfl (by omega) _ (RA.out.alloc (Nat.le_refl _) _) RN.out).mono ?_
  rintro e w2 ⟨rfl, m, rfl⟩
  go_wp2_with fail
  go_ret
  exact ⟨rfl, Kit.below_drewN (HB.out.alloc HB.out.size _) m⟩
end Go.Proofs.Ytfgjkfabgbhhfaa.CDense
