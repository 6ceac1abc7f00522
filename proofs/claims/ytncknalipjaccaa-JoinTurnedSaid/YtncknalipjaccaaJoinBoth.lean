/- Layer 20 (join): the fixed call; a node's cells as numbers; order among numbers that are joined. -/
import Derived.Test.YtncknalipjaccaaJoinCode
import Derived.Test.YtncknalipjaccaaNodeCopy
import Derived.Deep.RegionHeld3
import Derived.Deep.CutRange
namespace Go.Proofs.Ytncknalipjaccaa.CJoin
open Go Go.ChangeShapes Go.WideShapes Go.ChangeAt Go.RowKit Go.Deep
open Plain CSat CFix CShape CTensor CConv
set_option linter.unusedVariables false

theorem node_types : Try.prog.cellTypes Try.prog.depth 32 = some [3, 3, 3, 3, 3, 3, 3, 27, 27, 24, 28, 21, 3, 27, 21, 3, 27, 27, 27] := by kernel_rfl
theorem cell_int {P : Program} {w : World} {r : Reach} {b0 : Nat} {t u : TypeId} {fs : Array Field} {cs : Array Value} {ts : List TypeId} (ht : P.underlying t = some (.struct fs)) (hts : P.cellTypes P.depth t = some ts) (hv : Value.okWide P w r b0 t (.agg cs))
    (i : Nat) (v : Value) (hi : cs[i]? = some v) (hu : ts[i % ts.length]? = some u) (k : IntKind) (hk : P.underlying u = some (.int k)) : ∃ n, v = .int k n ∧ k.min ≤ n ∧ n ≤ k.max := by
  simp only [Value.okWide, ht] at hv
  obtain ⟨cs', e, _, ts', hts', _, hr⟩ := hv
  cases e
  rw [hts] at hts'
  cases hts'
  obtain ⟨u', hu', hc⟩ := hr i v hi
  rw [hu] at hu'
  cases hu'
  unfold Cell.okWide Cell.ok at hc
  rw [hk] at hc
  cases v <;> simp at hc
  obtain ⟨rfl, h⟩ := hc
  exact ⟨_, rfl, h.1, h.2⟩
/-- the cells of a node that a join reads are numbers. -/
theorem join_cells {w : World} {r : Reach} {b0 : Nat} {a0 a1 a2 a3 a4 a5 a6 a7 a8 a9 a10 a11 a12 a13 a14 a15 a16 a17 a18 : Value} (hv : Value.okWide Try.prog w r b0 32 (.agg #[a0, a1, a2, a3, a4, a5, a6, a7, a8, a9, a10, a11, a12, a13, a14, a15, a16, a17, a18])) :
    ∃ Y m1 s1 z1 m2 s2 z2 lo hi : Int, (a8 = .int .i8 Y ∧ a11 = .int .i32 m1 ∧ a12 = .int .i64 s1 ∧ a13 = .int .i8 z1 ∧ a14 = .int .i32 m2 ∧ a15 = .int .i64 s2 ∧ a16 = .int .i8 z2 ∧ a17 = .int .i8 lo ∧ a18 = .int .i8 hi) ∧ NBd 0 Y m1 z1 m2 z2 lo hi := by
  have h := fun (i : Nat) (v : Value) hi u hu k hk => cell_int (u := u) Try.underlying32 node_types hv i v hi hu k hk
  obtain ⟨Y, e8, l8, u8⟩ := h 8 a8 rfl _ rfl .i8 Try.underlying27
  obtain ⟨m1, e11, l11, u11⟩ := h 11 a11 rfl _ rfl .i32 Try.underlying21
  obtain ⟨s1, e12, l12, u12⟩ := h 12 a12 rfl _ rfl .i64 Try.underlying3
  obtain ⟨z1, e13, l13, u13⟩ := h 13 a13 rfl _ rfl .i8 Try.underlying27
  obtain ⟨m2, e14, l14, u14⟩ := h 14 a14 rfl _ rfl .i32 Try.underlying21
  obtain ⟨s2, e15, l15, u15⟩ := h 15 a15 rfl _ rfl .i64 Try.underlying3
  obtain ⟨z2, e16, l16, u16⟩ := h 16 a16 rfl _ rfl .i8 Try.underlying27
  obtain ⟨lo, e17, l17, u17⟩ := h 17 a17 rfl _ rfl .i8 Try.underlying27
  obtain ⟨hi, e18, l18, u18⟩ := h 18 a18 rfl _ rfl .i8 Try.underlying27
  clear h hv
  simp only [IntKind.min, IntKind.max, IntKind.signed, IntKind.bits] at *
  refine ⟨Y, m1, s1, z1, m2, s2, z2, lo, hi, ⟨e8, e11, e12, e13, e14, e15, e16, e17, e18⟩, ?_⟩
  unfold NBd
  simp at *
  omega
theorem NBd.of {Z Y m1 z1 m2 z2 lo hi : Int} (h : NBd 0 Y m1 z1 m2 z2 lo hi) (wZ : (Lit.int .i8 Z).wf = true) : NBd Z Y m1 z1 m2 z2 lo hi := by
  have hZ : -128 ≤ Z ∧ Z ≤ 127 := by simpa [Lit.wf, IntKind.min, IntKind.max, IntKind.signed, IntKind.bits] using wZ
  exact ⟨hZ, h.2⟩
theorem wrap_i8j (n : Int) : IntKind.i8.wrap n = (n + 128) % 256 - 128 := by
  unfold IntKind.wrap
  simp [IntKind.signed, IntKind.bits]
  omega
theorem clampZ_mono {a b lo hi : Int} (h : a ≤ b) (hl : lo ≤ hi) : clampZ a lo hi ≤ clampZ b lo hi := by
  unfold clampZ
  split <;> split <;> (try split) <;> (try split) <;> omega
theorem oneZ_mono_x {x x' y Z Y m1 s1 z1 m2 s2 lo hi : Int} (h : x ≤ x') (hl : lo ≤ hi) : oneZ x y Z Y m1 s1 z1 m2 s2 lo hi ≤ oneZ x' y Z Y m1 s1 z1 m2 s2 lo hi := by
  unfold oneZ
  split
  · rename_i hh
    obtain ⟨hr1, hr2⟩ : rightB m1 s1 = true ∧ rightB m2 s2 = true := by simpa using hh
    obtain ⟨k1, -, -⟩ := rightB_yes hr1
    refine clampZ_mono ?_ hl
    have := round_mono ((x - Z) * m1) ((x' - Z) * m1) s1.toNat (Int.mul_le_mul_of_nonneg_right (by omega) (by omega))
    omega
  · exact Int.le_refl _
theorem oneZ_mono_y {x y y' Z Y m1 s1 z1 m2 s2 lo hi : Int} (h : y ≤ y') (hl : lo ≤ hi) : oneZ x y Z Y m1 s1 z1 m2 s2 lo hi ≤ oneZ x y' Z Y m1 s1 z1 m2 s2 lo hi := by
  unfold oneZ
  split
  · rename_i hh
    obtain ⟨hr1, hr2⟩ : rightB m1 s1 = true ∧ rightB m2 s2 = true := by simpa using hh
    obtain ⟨k1, -, -⟩ := rightB_yes hr2
    refine clampZ_mono ?_ hl
    have := round_mono ((y - Y) * m2) ((y' - Y) * m2) s2.toNat (Int.mul_le_mul_of_nonneg_right (by omega) (by omega))
    omega
  · exact Int.le_refl _
theorem oneZ_turned (x y Z Y m1 s1 z1 m2 s2 lo hi : Int) : oneZ y x Y Z m2 s2 z1 m1 s1 lo hi = oneZ x y Z Y m1 s1 z1 m2 s2 lo hi := by
  unfold oneZ
  rw [Bool.and_comm, Int.add_comm (roundZ ((y - Y) * m2) s2.toNat)]
theorem oneZ_bd {x y Z Y m1 s1 z1 m2 z2 s2 lo hi : Int} (h : NBd Z Y m1 z1 m2 z2 lo hi) : -128 ≤ oneZ x y Z Y m1 s1 z1 m2 s2 lo hi ∧ oneZ x y Z Y m1 s1 z1 m2 s2 lo hi ≤ 127 := by
  obtain ⟨-, -, -, -, -, -, ⟨hl1, hl2⟩, ⟨hh1, hh2⟩⟩ := h
  unfold oneZ
  split
  · exact clampZ_bd _ _ _ hl1 hl2 hh1 hh2
  · omega
theorem one_known (w : World) : Calls Try.prog 10 #[.int .i8 3, .int .i8 4, .agg #[.int .i64 0, .int .i64 0, .int .i64 0, .int .i64 0, .int .i64 0, .int .i64 0, .int .i64 0, .int .i8 0, .int .i8 0, .slice none 0 0, .slice none 0 0, .int .i32 1, .int .i64 0, .int .i8 1, .int .i32 1, .int .i64 0, .int .i8 0, .int .i8 (-128), .int .i8 127]] w fun e w' => e = .returned (.int .i8 8) ∧ Below w.heap.size w w' :=
  one_to 3 4 (by decide) (by decide) (by decide) (by decide) (.int .i64 0) (.int .i64 0) (.int .i64 0) 0 0 0 0 0 0 none none 0 0 0 0 1 0 1 1 0 0 (-128) 127 (by unfold NBd; omega) 8 (by decide) w
set_option maxRecDepth 100000 in
set_option maxHeartbeats 4000000 in
theorem known20 (w : World) : Calls Try.prog 6 #[] w fun e w' => e = .returned (.bool true) ∧ Below w.heap.size w w' := by
  go_enter Try.func6, Try.ntmps6
  go_upto_region 1 with fail
  have hth := Kit.there_new w (cs := #[.int .i64 0, .int .i64 0, .int .i64 0, .int .i64 0, .int .i64 0, .int .i64 0, .int .i64 0, .int .i8 0, .int .i8 0, .slice none 0 0, .slice none 0 0, .int .i32 0, .int .i64 0, .int .i8 0, .int .i32 0, .int .i64 0, .int .i8 0, .int .i8 0, .int .i8 0]) 32 (n := 19) rfl
  have HTH := Lib.hid hth
  clear hth
  go_upto_region 2 with (refine wpList_store_mid rfl 32 (.tmp 1) (.tmp 4) rfl w.heap.size 0 #[.int .i64 0, .int .i64 0, .int .i64 0, .int .i64 0, .int .i64 0, .int .i64 0, .int .i64 0, .int .i8 0, .int .i8 0, .slice none 0 0, .slice none 0 0, .int .i32 1, .int .i64 0, .int .i8 1, .int .i32 1, .int .i64 0, .int .i8 0, .int .i8 (-128), .int .i8 127] rfl rfl HTH.out (by kernel_rfl) (all_oneCell_toArray (cs := [.int .i64 0, .int .i64 0, .int .i64 0, .int .i64 0, .int .i64 0, .int .i64 0, .int .i64 0, .int .i8 0, .int .i8 0, .slice none 0 0, .slice none 0 0, .int .i32 1, .int .i64 0, .int .i8 1, .int .i32 1, .int .i64 0, .int .i8 0, .int .i8 (-128), .int .i8 127]) (by simp [Value.oneCell'])) ?_)
  have TN := Lib.hid (NodeAt.stored HTH.out (.int .i64 0) (.int .i64 0) (.int .i64 0) (.int .i8 0) (.int .i32 1) (.int .i64 0) (.int .i8 1) (.int .i32 1) (.int .i64 0) (.int .i8 0) (.int .i8 (-128)) (.int .i8 127) 0 0 0 0 0 none none 0 0 0 0)
  have HB0 : Below w.heap.size w ((w.alloc (.cells #[.int .i64 0, .int .i64 0, .int .i64 0, .int .i64 0, .int .i64 0, .int .i64 0, .int .i64 0, .int .i8 0, .int .i8 0, .slice none 0 0, .slice none 0 0, .int .i32 0, .int .i64 0, .int .i8 0, .int .i32 0, .int .i64 0, .int .i8 0, .int .i8 0, .int .i8 0] 32)).setCells w.heap.size 0 [.int .i64 0, .int .i64 0, .int .i64 0, .int .i64 0, .int .i64 0, .int .i64 0, .int .i64 0, .int .i8 0, .int .i8 0, .slice none 0 0, .slice none 0 0, .int .i32 1, .int .i64 0, .int .i8 1, .int .i32 1, .int .i64 0, .int .i8 0, .int .i8 (-128), .int .i8 127]) := Kit.below_cells (Nat.le_refl _) _ _ _ ((Below.refl _ _).alloc (Nat.le_refl _) _)
  have HB := Lib.hid HB0
  clear HTH HB0
  generalize (w.alloc (.cells #[.int .i64 0, .int .i64 0, .int .i64 0, .int .i64 0, .int .i64 0, .int .i64 0, .int .i64 0, .int .i8 0, .int .i8 0, .slice none 0 0, .slice none 0 0, .int .i32 0, .int .i64 0, .int .i8 0, .int .i32 0, .int .i64 0, .int .i8 0, .int .i8 0, .int .i8 0] 32)).setCells w.heap.size 0 [.int .i64 0, .int .i64 0, .int .i64 0, .int .i64 0, .int .i64 0, .int .i64 0, .int .i64 0, .int .i8 0, .int .i8 0, .slice none 0 0, .slice none 0 0, .int .i32 1, .int .i64 0, .int .i8 1, .int .i32 1, .int .i64 0, .int .i8 0, .int .i8 (-128), .int .i8 127] = W1 at TN HB ⊢
  go_wp2_with (first
    | (refine wpList_load_mid rfl 32 (.tmp 1) rfl w.heap.size 0 rfl [.int .i64 0, .int .i64 0, .int .i64 0, .int .i64 0, .int .i64 0, .int .i64 0, .int .i64 0, .int .i8 0, .int .i8 0, .slice none 0 0, .slice none 0 0, .int .i32 1, .int .i64 0, .int .i8 1, .int .i32 1, .int .i64 0, .int .i8 0, .int .i8 (-128), .int .i8 127] _ TN.out Try.underlying32 rfl (by kernel_rfl) ?_)
    | (go_at_call 10; (refine (one_known _).mono ?_); rintro e w2 ⟨rfl, hb2⟩; (replace HB := Lib.hid (HB.out.trans (hb2.mono HB.out.size))); clear hb2))
  go_ret
  exact ⟨rfl, HB.out⟩
end Go.Proofs.Ytncknalipjaccaa.CJoin
