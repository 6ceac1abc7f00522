/- RatioTimes: any two scales one behind the other, or why they can't be, is that of the document; so is a scale made plain; the call returns true and leaves its arguments as they were. No condition. -/
import Derived.Test.YtpiigdgiliaihaaRatioKnown
import Derived.Test.YtpiigdgiliaihaaRatioRefFour
namespace Go.Proofs.Ytpiigdgiliaihaa.lawRatioTimes
open Go Go.ChangeShapes Go.WideShapes Go.ChangeAt Go.RowKit
open Plain CSat CFix Num CRatio
set_option linter.unusedVariables false

theorem times_both (m s z m' s' z' : Int) (hm : m ≤ 2147483647) (hm' : m' ≤ 2147483647) : ∃ x y t e : Int,
    (∀ w : World, Calls Try.prog 10 #[.agg #[.int .i32 m, .int .i64 s, .int .i8 z], .agg #[.int .i32 m', .int .i64 s', .int .i8 z']] w fun r w' => r = .returned (.tuple #[.agg #[.int .i32 x, .int .i64 y, .int .i8 t], .int .i64 e]) ∧ Below w.heap.size w w') ∧
    (∀ w : World, Calls Try.prog 11 #[.agg #[.int .i32 m, .int .i64 s, .int .i8 z], .agg #[.int .i32 m', .int .i64 s', .int .i8 z']] w fun r w' => r = .returned (.tuple #[.agg #[.int .i32 x, .int .i64 y, .int .i8 t], .int .i64 e]) ∧ Below w.heap.size w w') := by
  cases h : rightB m s
  · exact ⟨_, _, _, _, fun w => times_no m s m' s' z z' (.inl h) w, fun w => refTimes_no m s m' s' z z' (.inl h) w⟩
  · cases h' : rightB m' s'
    · exact ⟨_, _, _, _, fun w => times_no m s m' s' z z' (.inr ⟨h, h'⟩) w, fun w => refTimes_no m s m' s' z z' (.inr ⟨h, h'⟩) w⟩
    · obtain ⟨a, b, rfl, rfl, a1, b1⟩ := right_nat h
      obtain ⟨c, d, rfl, rfl, c1, d1⟩ := right_nat h'
      obtain ⟨j, x, hj⟩ := isPlain a b
      obtain ⟨j', x', hj'⟩ := isPlain c d
      obtain ⟨u1, u2, u3, hu⟩ : ∃ u1 u2 u3 : Int, timesS x x' (b + j) (d + j') z' = #[.int .i32 u1, .int .i64 u2, .int .i8 u3] := by
        unfold timesS
        split
        · exact ⟨_, _, _, rfl⟩
        · exact ⟨_, _, _, rfl⟩
      exact ⟨u1, u2, u3, _, fun w => times_yes a b j x _ c d j' x' _ z z' a1 (by omega) b1 hj rfl c1 (by omega) d1 hj' rfl _ _ rfl hu w, fun w => refTimes_yes a b j x _ c d j' x' _ z z' a1 (by omega) b1 hj rfl c1 (by omega) d1 hj' rfl _ _ rfl hu w⟩

set_option maxHeartbeats 2000000 in
theorem walk (m : Int) (wm : (Lit.int .i32 m).wf = true) (s : Int) (ws : (Lit.int .i64 s).wf = true) (z : Int) (wz : (Lit.int .i8 z).wf = true) (m' : Int) (wm' : (Lit.int .i32 m').wf = true) (s' : Int) (ws' : (Lit.int .i64 s').wf = true) (z' : Int) (wz' : (Lit.int .i8 z').wf = true) (w : World) :
    Calls Try.prog 5 #[.agg #[.int .i32 m, .int .i64 s, .int .i8 z], .agg #[.int .i32 m', .int .i64 s', .int .i8 z']] w fun e w' => e = .returned (.bool true) ∧ Below w.heap.size w w' := by
  obtain ⟨x, y, t, e, q1, q2⟩ := times_both m s z m' s' z' (bounds_i32 wm).2 (bounds_i32 wm').2
  obtain ⟨px, py, pz, q3, q4⟩ := plain_both m s z (bounds_i32 wm).2
  clear wm ws wz wm' ws' wz'
  have H1 := Lib.hid q1
  have H2 := Lib.hid q2
  have H3 := Lib.hid q3
  have H4 := Lib.hid q4
  have HE1 := eqQuant x y t x y t
  have HE2 := eqQuant px py pz px py pz
  simp only [beq_self_eq_true, Bool.and_self] at HE1 HE2
  have hg := Try.eqGuardType24
  clear q1 q2 q3 q4
  go_enter Try.func5, Try.ntmps5
  go_wp2_with (first
    | (go_at_call 10; (refine (H1.out _).mono ?_; rintro e w1 ⟨rfl, h1⟩; have s1 : w.heap.size + 1 < w1.heap.size := (by have := h1.size; simp at this; omega); have a0 : w1.cell? ⟨w.heap.size, 0, none⟩ = some (.int .i32 m) := (h1.cell (p := ⟨w.heap.size, 0, none⟩) (by first | omega | (simp; done) | (simp; omega))).trans (by go_cell); have a1 : w1.cell? ⟨w.heap.size, 1, none⟩ = some (.int .i64 s) := (h1.cell (p := ⟨w.heap.size, 1, none⟩) (by first | omega | (simp; done) | (simp; omega))).trans (by go_cell); have a2 : w1.cell? ⟨w.heap.size, 2, none⟩ = some (.int .i8 z) := (h1.cell (p := ⟨w.heap.size, 2, none⟩) (by first | omega | (simp; done) | (simp; omega))).trans (by go_cell); have a3 : w1.cell? ⟨w.heap.size + 1, 0, none⟩ = some (.int .i32 m') := (h1.cell (p := ⟨w.heap.size + 1, 0, none⟩) (by first | omega | (simp; done) | (simp; omega))).trans (by go_cell); have a4 : w1.cell? ⟨w.heap.size + 1, 1, none⟩ = some (.int .i64 s') := (h1.cell (p := ⟨w.heap.size + 1, 1, none⟩) (by first | omega | (simp; done) | (simp; omega))).trans (by go_cell); have a5 : w1.cell? ⟨w.heap.size + 1, 2, none⟩ = some (.int .i8 z') := (h1.cell (p := ⟨w.heap.size + 1, 2, none⟩) (by first | omega | (simp; done) | (simp; omega))).trans (by go_cell); have z1 : Below w.heap.size w w1 := (by go_grown : Below w.heap.size w _).trans (h1.mono (by first | omega | (simp; done) | (simp; omega))); have ba0 : w.heap.size < w1.heap.size := (by omega); have bc0 : ¬ w.heap.size = w1.heap.size := (by omega); have bd0 : ¬ w1.heap.size = w.heap.size := (by omega); have ba1 : w.heap.size + 1 < w1.heap.size := (by omega); have bc1 : ¬ w.heap.size + 1 = w1.heap.size := (by omega); have bd1 : ¬ w1.heap.size = w.heap.size + 1 := (by omega)))
    | (go_at_call 11; (refine (H2.out _).mono ?_; rintro e w2 ⟨rfl, h2⟩; have s2 : w1.heap.size < w2.heap.size := (by have := h2.size; simp at this; omega); have d0 : w2.cell? ⟨w.heap.size, 0, none⟩ = some (.int .i32 m) := (h2.cell (p := ⟨w.heap.size, 0, none⟩) (by first | omega | (simp; done) | (simp; omega))).trans (by go_cell); have d1 : w2.cell? ⟨w.heap.size, 1, none⟩ = some (.int .i64 s) := (h2.cell (p := ⟨w.heap.size, 1, none⟩) (by first | omega | (simp; done) | (simp; omega))).trans (by go_cell); have d2 : w2.cell? ⟨w.heap.size, 2, none⟩ = some (.int .i8 z) := (h2.cell (p := ⟨w.heap.size, 2, none⟩) (by first | omega | (simp; done) | (simp; omega))).trans (by go_cell); have d3 : w2.cell? ⟨w1.heap.size, 0, none⟩ = some (.int .i32 x) := (h2.cell (p := ⟨w1.heap.size, 0, none⟩) (by first | omega | (simp; done) | (simp; omega))).trans (by go_cell); have d4 : w2.cell? ⟨w1.heap.size, 1, none⟩ = some (.int .i64 y) := (h2.cell (p := ⟨w1.heap.size, 1, none⟩) (by first | omega | (simp; done) | (simp; omega))).trans (by go_cell); have d5 : w2.cell? ⟨w1.heap.size, 2, none⟩ = some (.int .i8 t) := (h2.cell (p := ⟨w1.heap.size, 2, none⟩) (by first | omega | (simp; done) | (simp; omega))).trans (by go_cell); have z2 : Below w.heap.size w w2 := (by go_grown : Below w.heap.size w _).trans (h2.mono (by first | omega | (simp; done) | (simp; omega))); have fa0 : w.heap.size < w2.heap.size := (by omega); have fc0 : ¬ w.heap.size = w2.heap.size := (by omega); have fd0 : ¬ w2.heap.size = w.heap.size := (by omega); have fa1 : w.heap.size + 1 < w2.heap.size := (by omega); have fc1 : ¬ w.heap.size + 1 = w2.heap.size := (by omega); have fd1 : ¬ w2.heap.size = w.heap.size + 1 := (by omega); have fa2 : w1.heap.size < w2.heap.size := (by omega); have fc2 : ¬ w1.heap.size = w2.heap.size := (by omega); have fd2 : ¬ w2.heap.size = w1.heap.size := (by omega))))
  go_region_held3 (fun w' => w'.cell? ⟨w.heap.size, 0, none⟩ = some (.int .i32 m) ∧ w'.cell? ⟨w.heap.size, 1, none⟩ = some (.int .i64 s) ∧ w'.cell? ⟨w.heap.size, 2, none⟩ = some (.int .i8 z) ∧ w'.cell? ⟨w1.heap.size, 0, none⟩ = some (.int .i32 x) ∧ w'.cell? ⟨w1.heap.size, 1, none⟩ = some (.int .i64 y) ∧ w'.cell? ⟨w1.heap.size, 2, none⟩ = some (.int .i8 t) ∧ w'.cell? ⟨w2.heap.size, 0, none⟩ = some (.int .i32 x) ∧ w'.cell? ⟨w2.heap.size, 1, none⟩ = some (.int .i64 y) ∧ w'.cell? ⟨w2.heap.size, 2, none⟩ = some (.int .i8 t)) (go_keep) ((first
    | (go_at_call 12; (refine (H3.out _).mono ?_; rintro e wA ⟨rfl, hA⟩; have sA : w2.heap.size < wA.heap.size := (by have := hA.size; first | omega | (simp at this; omega)); have g0 : wA.cell? ⟨w.heap.size, 0, none⟩ = some (.int .i32 m) := (hA.cell (p := ⟨w.heap.size, 0, none⟩) (by first | omega | (simp; done) | (simp; omega))).trans (by go_cell); have g1 : wA.cell? ⟨w.heap.size, 1, none⟩ = some (.int .i64 s) := (hA.cell (p := ⟨w.heap.size, 1, none⟩) (by first | omega | (simp; done) | (simp; omega))).trans (by go_cell); have g2 : wA.cell? ⟨w.heap.size, 2, none⟩ = some (.int .i8 z) := (hA.cell (p := ⟨w.heap.size, 2, none⟩) (by first | omega | (simp; done) | (simp; omega))).trans (by go_cell); have g3 : wA.cell? ⟨w1.heap.size, 0, none⟩ = some (.int .i32 x) := (hA.cell (p := ⟨w1.heap.size, 0, none⟩) (by first | omega | (simp; done) | (simp; omega))).trans (by go_cell); have g4 : wA.cell? ⟨w1.heap.size, 1, none⟩ = some (.int .i64 y) := (hA.cell (p := ⟨w1.heap.size, 1, none⟩) (by first | omega | (simp; done) | (simp; omega))).trans (by go_cell); have g5 : wA.cell? ⟨w1.heap.size, 2, none⟩ = some (.int .i8 t) := (hA.cell (p := ⟨w1.heap.size, 2, none⟩) (by first | omega | (simp; done) | (simp; omega))).trans (by go_cell); have g6 : wA.cell? ⟨w2.heap.size, 0, none⟩ = some (.int .i32 x) := (hA.cell (p := ⟨w2.heap.size, 0, none⟩) (by first | omega | (simp; done) | (simp; omega))).trans (by go_cell); have g7 : wA.cell? ⟨w2.heap.size, 1, none⟩ = some (.int .i64 y) := (hA.cell (p := ⟨w2.heap.size, 1, none⟩) (by first | omega | (simp; done) | (simp; omega))).trans (by go_cell); have g8 : wA.cell? ⟨w2.heap.size, 2, none⟩ = some (.int .i8 t) := (hA.cell (p := ⟨w2.heap.size, 2, none⟩) (by first | omega | (simp; done) | (simp; omega))).trans (by go_cell); have zA : Below w.heap.size w wA := (by go_grown : Below w.heap.size w _).trans (hA.mono (by first | omega | (simp; done) | (simp; omega)))))
    | (go_at_call 13; (refine (H4.out _).mono ?_; rintro e wB ⟨rfl, hB⟩; have sB : w2.heap.size < wB.heap.size := (by have := hB.size; first | omega | (simp at this; omega)); have i0 : wB.cell? ⟨w.heap.size, 0, none⟩ = some (.int .i32 m) := (hB.cell (p := ⟨w.heap.size, 0, none⟩) (by first | omega | (simp; done) | (simp; omega))).trans (by go_cell); have i1 : wB.cell? ⟨w.heap.size, 1, none⟩ = some (.int .i64 s) := (hB.cell (p := ⟨w.heap.size, 1, none⟩) (by first | omega | (simp; done) | (simp; omega))).trans (by go_cell); have i2 : wB.cell? ⟨w.heap.size, 2, none⟩ = some (.int .i8 z) := (hB.cell (p := ⟨w.heap.size, 2, none⟩) (by first | omega | (simp; done) | (simp; omega))).trans (by go_cell); have i3 : wB.cell? ⟨w1.heap.size, 0, none⟩ = some (.int .i32 x) := (hB.cell (p := ⟨w1.heap.size, 0, none⟩) (by first | omega | (simp; done) | (simp; omega))).trans (by go_cell); have i4 : wB.cell? ⟨w1.heap.size, 1, none⟩ = some (.int .i64 y) := (hB.cell (p := ⟨w1.heap.size, 1, none⟩) (by first | omega | (simp; done) | (simp; omega))).trans (by go_cell); have i5 : wB.cell? ⟨w1.heap.size, 2, none⟩ = some (.int .i8 t) := (hB.cell (p := ⟨w1.heap.size, 2, none⟩) (by first | omega | (simp; done) | (simp; omega))).trans (by go_cell); have i6 : wB.cell? ⟨w2.heap.size, 0, none⟩ = some (.int .i32 x) := (hB.cell (p := ⟨w2.heap.size, 0, none⟩) (by first | omega | (simp; done) | (simp; omega))).trans (by go_cell); have i7 : wB.cell? ⟨w2.heap.size, 1, none⟩ = some (.int .i64 y) := (hB.cell (p := ⟨w2.heap.size, 1, none⟩) (by first | omega | (simp; done) | (simp; omega))).trans (by go_cell); have i8 : wB.cell? ⟨w2.heap.size, 2, none⟩ = some (.int .i8 t) := (hB.cell (p := ⟨w2.heap.size, 2, none⟩) (by first | omega | (simp; done) | (simp; omega))).trans (by go_cell); have zB : Below w.heap.size w wB := (by go_grown : Below w.heap.size w _).trans (hB.mono (by first | omega | (simp; done) | (simp; omega)))))
    | (go_at_call 9; (refine (known03 _).mono ?_; rintro e wC ⟨rfl, hC⟩; have sC : w2.heap.size < wC.heap.size := (by have := hC.size; first | omega | (simp at this; omega)); have l0 : wC.cell? ⟨w.heap.size, 0, none⟩ = some (.int .i32 m) := (hC.cell (p := ⟨w.heap.size, 0, none⟩) (by first | omega | (simp; done) | (simp; omega))).trans (by go_cell); have l1 : wC.cell? ⟨w.heap.size, 1, none⟩ = some (.int .i64 s) := (hC.cell (p := ⟨w.heap.size, 1, none⟩) (by first | omega | (simp; done) | (simp; omega))).trans (by go_cell); have l2 : wC.cell? ⟨w.heap.size, 2, none⟩ = some (.int .i8 z) := (hC.cell (p := ⟨w.heap.size, 2, none⟩) (by first | omega | (simp; done) | (simp; omega))).trans (by go_cell); have l3 : wC.cell? ⟨w1.heap.size, 0, none⟩ = some (.int .i32 x) := (hC.cell (p := ⟨w1.heap.size, 0, none⟩) (by first | omega | (simp; done) | (simp; omega))).trans (by go_cell); have l4 : wC.cell? ⟨w1.heap.size, 1, none⟩ = some (.int .i64 y) := (hC.cell (p := ⟨w1.heap.size, 1, none⟩) (by first | omega | (simp; done) | (simp; omega))).trans (by go_cell); have l5 : wC.cell? ⟨w1.heap.size, 2, none⟩ = some (.int .i8 t) := (hC.cell (p := ⟨w1.heap.size, 2, none⟩) (by first | omega | (simp; done) | (simp; omega))).trans (by go_cell); have l6 : wC.cell? ⟨w2.heap.size, 0, none⟩ = some (.int .i32 x) := (hC.cell (p := ⟨w2.heap.size, 0, none⟩) (by first | omega | (simp; done) | (simp; omega))).trans (by go_cell); have l7 : wC.cell? ⟨w2.heap.size, 1, none⟩ = some (.int .i64 y) := (hC.cell (p := ⟨w2.heap.size, 1, none⟩) (by first | omega | (simp; done) | (simp; omega))).trans (by go_cell); have l8 : wC.cell? ⟨w2.heap.size, 2, none⟩ = some (.int .i8 t) := (hC.cell (p := ⟨w2.heap.size, 2, none⟩) (by first | omega | (simp; done) | (simp; omega))).trans (by go_cell); have zC : Below w.heap.size w wC := (by go_grown : Below w.heap.size w _).trans (hC.mono (by first | omega | (simp; done) | (simp; omega)))))))
  all_goals
    go_wp2
    go_ret
    exact ⟨rfl, by go_grown⟩
/-! ### the frame: written by program -/
theorem own : ownKnob Try.prog.godebug = none := by kernel_rfl
theorem laid : laidOutB Try.prog = true := by kernel_rfl
theorem contract {H : Type} {enc : TypeId × Value → H} {W : World} {base : Nat} {args : Array Value} {ds gs : List (DataW H)} {before : List MemPlace}
    (hval0 : ∀ (j : Nat) t v, Try.f5.params[j]? = some t → args[j]? = some v → Value.okWide Try.prog W .any base t v)
    (hW : DataW.Whole enc Try.prog Try.f5.params.toList Rows.ratioTimesSpec.vars false W args.toList ds gs before) :
    Calls Try.prog 5 args W fun e W' => e = .returned (.bool true) ∧ Below W.heap.size W W' := by
  have hval : ∀ (j : Nat) t v, Try.f5.params[j]? = some t → args[j]? = some v → Value.okWide Try.prog W .any base t v := hval0
  obtain ⟨p, q, hA0, hV, rfl, hfz, hnd⟩ := hW
  have hA : DataW.TrodAll enc Try.prog W 0 (fun _ => true) true Try.f5.params.toList args.toList ds p := hA0
  rw [Try.params5] at hA hval
  obtain ⟨v0, vs0, d0, ds0, p0, q0, hargs, rfl, rfl, h0, r0⟩ := trodAll_cons hA
  obtain ⟨v1, vs1, d1, ds1, p1, q1, rfl, rfl, rfl, h1, r1⟩ := trodAll_cons r0
  obtain ⟨rfl, rfl, rfl⟩ := trodAll_nil r1
  obtain rfl : args = #[v0, v1] := by cases args; simp_all
  clear hA0 hval0
  obtain ⟨cs0, rfl, hs0, hf0⟩ := Kit.open_flat Try.underlying24 (by kernel_rfl) (by kernel_rfl) (hval 0 24 v0 rfl rfl) h0
  obtain ⟨u0_0, u0_1, u0_2, rfl⟩ := Kit.size_3 hs0
  obtain ⟨a0_0, rfl, w0_0⟩ := Kit.flat_int Try.underlying21 (v := u0_0) rfl (hf0 0 _ rfl)
  obtain ⟨a0_1, rfl, w0_1⟩ := Kit.flat_int Try.underlying3 (v := u0_1) rfl (hf0 1 _ rfl)
  obtain ⟨a0_2, rfl, w0_2⟩ := Kit.flat_int Try.underlying22 (v := u0_2) rfl (hf0 2 _ rfl)
  obtain ⟨cs1, rfl, hs1, hf1⟩ := Kit.open_flat Try.underlying24 (by kernel_rfl) (by kernel_rfl) (hval 1 24 v1 rfl rfl) h1
  obtain ⟨u1_0, u1_1, u1_2, rfl⟩ := Kit.size_3 hs1
  obtain ⟨a1_0, rfl, w1_0⟩ := Kit.flat_int Try.underlying21 (v := u1_0) rfl (hf1 0 _ rfl)
  obtain ⟨a1_1, rfl, w1_1⟩ := Kit.flat_int Try.underlying3 (v := u1_1) rfl (hf1 1 _ rfl)
  obtain ⟨a1_2, rfl, w1_2⟩ := Kit.flat_int Try.underlying22 (v := u1_2) rfl (hf1 2 _ rfl)
  exact walk (w := W) a0_0 w0_0 a0_1 w0_1 a0_2 w0_2 a1_0 w1_0 a1_1 w1_1 a1_2 w1_2
theorem fnIs {H : Type} : ∀ ds : List (DataW H), ds.length = Try.f5.params.toList.length → Rows.ratioTimesSpec.fn H ds = { results := [.lit (.bool true)], args := ds } := by
  intro ds h
  rw [Try.params5] at h
  match ds, h with
  | [d1, d2], _ => rfl
set_option maxRecDepth 100000 in
theorem lifted (os : Os) (started : os.Started) (H : Type) (enc : TypeId × Value → H) :
    ReturnsInHanded {} Try.checked os 5 .any (Rows.ratioTimesSpec.pre6 enc Try.prog Try.f5 Rows.ratioTimesRow.domain false) (Rows.ratioTimesSpec.post enc Try.prog Try.f5 false true false false) := by
  refine returnsInHanded_of_change (C := Try.checked) own started (by kernel_rfl) Try.func5
    (ChangeSpec.witness6 (enc := enc) (C := Try.checked) false ⟨#[], #[.agg #[.int .i32 0, .int .i64 0, .int .i8 0], .agg #[.int .i32 0, .int .i64 0, .int .i8 0]], []⟩ 8 (by kernel_rfl) (by kernel_rfl) (by kernel_rfl) (by kernel_rfl)) ?_
  intro W base args ds gs before hval hW _ _
  refine (contract hval hW).mono fun e W' ⟨he, hg⟩ => ?_
  subst he
  exact ⟨_, rfl, Kit.law_post (tb := 4) laid (by kernel_rfl) rfl (by kernel_rfl) Try.underlying4 fnIs hW hg⟩
theorem over : Rows.ratioTimesRow.holds Try.pinned (OpenSpec.ofChange Rows.ratioTimesSpec) :=
  OpenClaim.holds_of_wide 5 Try.f5 rfl rfl rfl rfl rfl rfl rfl ⟨rfl, rfl, rfl, rfl, rfl⟩ rfl rfl rfl rfl rfl (by kernel_rfl) Try.func5 (by kernel_rfl)
    (of_decide_eq_true (by kernel_rfl)) (by unfold Func.isWrapper; first | (rw [if_pos (by decide +kernel)]; kernel_rfl) | (rw [if_neg (by decide +kernel)]; exact ⟨rfl, rfl⟩))
    (fun os started H enc _ => lifted os started H enc)
/-- the statement. -/
theorem proved : Rows.RatioTimesSaid :=
  over
end Go.Proofs.Ytpiigdgiliaihaa.lawRatioTimes
