/- ShapeBack: a place and its row, column and channel go back and forth, within any shape; the call returns true and leaves its arguments as they were. No condition. -/
import Derived.Test.YteoigdpclnickaaShapeRefTwo
import Derived.Laws.StructEq
namespace Go.Proofs.Yteoigdpclnickaa.lawShapeBack
open Go Go.ChangeShapes Go.WideShapes Go.ChangeAt Go.RowKit
open Plain CSat CShape
set_option linter.unusedVariables false

theorem eqPlace (a b c x y z : Int) (w : World) : (Op.equalIn 10000 49 (.agg #[.int .i64 a, .int .i64 b, .int .i64 c]) (.agg #[.int .i64 x, .int .i64 y, .int .i64 z])).run Try.prog w = .ok (a == x && (b == y && c == z)) w := by
  have u3 := Try.underlying3
  have a3 := Try.isAgg3
  have z3 := Try.sizeOf3
  rw [show (10000 : Nat) = 9999 + 1 from rfl, Op.equalIn]
  simp only [Sem.run_bind, run_underlying Try.underlying49, Result.andThen_ok]
  simp only [Std.Legacy.Range.forIn_eq_forIn_range', Std.Legacy.Range.size, Nat.sub_zero, Nat.add_sub_cancel, Nat.div_one, List.range'_succ, List.range'_zero, List.forIn_cons, List.forIn_nil]
  go_simp
  by_cases h1 : a = x <;> by_cases h2 : b = y <;> by_cases h3 : c = z <;> simp [h1, h2, h3]

theorem walk (H : Int) (wH : (Lit.int .i64 H).wf = true) (W : Int) (wW : (Lit.int .i64 W).wf = true) (C : Int) (wC : (Lit.int .i64 C).wf = true) (i : Int) (wi : (Lit.int .i64 i).wf = true) (w : World) :
    Calls Try.prog 8 #[.agg #[.int .i64 H, .int .i64 W, .int .i64 C], .int .i64 i] w fun e w' => e = .returned (.bool true) ∧ Below w.heap.size w w' := by
  clear wH wW wC wi
  obtain ⟨n, hn⟩ : ∃ n, elemsZ H W C = n := ⟨_, rfl⟩
  by_cases hi : 0 ≤ i ∧ i < n
  · obtain ⟨i1, i2⟩ := hi
    cases hs : shapeB H W C
    · rw [elemsZ_no hs] at hn; omega
    obtain ⟨a1, a2, a3, a4, a5, a6, a7⟩ := shapeB_yes hs
    obtain ⟨r, hr⟩ : ∃ r, i % C = r := ⟨_, rfl⟩
    obtain ⟨q, hq⟩ : ∃ q, i / C = q := ⟨_, rfl⟩
    obtain ⟨x, hx⟩ : ∃ x, q / W = x := ⟨_, rfl⟩
    obtain ⟨y, hy⟩ : ∃ y, q % W = y := ⟨_, rfl⟩
    have e1 : C * q + r = i := by rw [← hq, ← hr]; exact Int.mul_ediv_add_emod i C
    have e2 : W * x + y = q := by rw [← hx, ← hy]; exact Int.mul_ediv_add_emod q W
    have e3 : (x * W + y) * C + r = i := by rw [Int.mul_comm x W, e2, Int.mul_comm]; exact e1
    have r1 : 0 ≤ r := hr ▸ Int.emod_nonneg _ (by omega)
    have r2 : r < C := hr ▸ Int.emod_lt_of_pos _ (by omega)
    have y1 : 0 ≤ y := hy ▸ Int.emod_nonneg _ (by omega)
    have y2 : y < W := hy ▸ Int.emod_lt_of_pos _ (by omega)
    have q1 : 0 ≤ q := hq ▸ Int.ediv_nonneg i1 (by omega)
    have x1 : 0 ≤ x := hx ▸ Int.ediv_nonneg q1 (by omega)
    have q2 : q < H * W := by
      rw [← hq]
      apply Int.ediv_lt_of_lt_mul (by omega)
      rw [← hn, elemsZ_yes hs] at i2
      exact i2
    have x2 : x < H := by
      rw [← hx]
      exact Int.ediv_lt_of_lt_mul (by omega) q2
    have hb : inB H W C x y r = true := by
      simp only [inB, Bool.and_eq_true, decide_eq_true_eq]
      exact ⟨hs, x1, x2, y1, y2, r1, r2⟩
    have hr2 : indexZ H W C x y r 0 = i := by rw [indexZ_yes hb]; exact e3
    have ht : Hid (i / C / W = x ∧ i / C % W = y ∧ i % C = r) := Lib.hid ⟨by rw [hq]; exact hx, by rw [hq]; exact hy, hr⟩
    have hin : Hid (0 ≤ i ∧ i < elemsZ H W C) := Lib.hid ⟨i1, hn.symm ▸ i2⟩
    have HN := Lib.hid hn
    have HB := Lib.hid hb
    have HR := Lib.hid hr2
    clear hn hb hr2 hr hq hx hy e1 e2 e3 q2 hs a7
    have hp : ∀ wd : World, Calls Try.prog 27 #[.agg #[.int .i64 H, .int .i64 W, .int .i64 C], .int .i64 i] wd fun e w' => e = .returned (.tuple #[.agg #[.int .i64 x, .int .i64 y, .int .i64 r], .bool true]) ∧ Below wd.heap.size wd w' := fun wd => by
      have := place_yes H W C i hin.out.1 hin.out.2 wd
      rw [ht.out.1, ht.out.2.1, ht.out.2.2] at this
      exact this
    have HP := Lib.hid hp
    clear hp
    go_enter Try.func8, Try.ntmps8
    go_wp2_with (first
      | (go_at_call 27; (refine (HP.out _).mono ?_; rintro e w1 ⟨rfl, h1⟩; have b1 : Below (w.heap.size + 1) (w.alloc (.cells #[.int .i64 H, .int .i64 W, .int .i64 C] 42)) w1 := h1.mono (by simp); obtain ⟨c10, c11, c12, s1, z1⟩ := Kit.box_3 b1; have l1 : w.heap.size < w1.heap.size := s1; have n1 : ¬ w.heap.size = w1.heap.size := Nat.ne_of_lt l1; have n2 : ¬ w1.heap.size = w.heap.size := Nat.ne_of_gt l1))
      | (go_at_call 21; ((with_reducible refine (refElems_to H W C _ HN.out _).mono ?_); (rintro e w2 ⟨rfl, h2⟩; have d0 : w2.cell? ⟨w1.heap.size, 0, none⟩ = some (.int .i64 x) := (h2.cell (p := ⟨w1.heap.size, 0, none⟩) (by first | (simp; done) | (simp; omega))).trans (by go_cell); have d1 : w2.cell? ⟨w1.heap.size, 1, none⟩ = some (.int .i64 y) := (h2.cell (p := ⟨w1.heap.size, 1, none⟩) (by first | (simp; done) | (simp; omega))).trans (by go_cell); have d2 : w2.cell? ⟨w1.heap.size, 2, none⟩ = some (.int .i64 r) := (h2.cell (p := ⟨w1.heap.size, 2, none⟩) (by first | (simp; done) | (simp; omega))).trans (by go_cell); have k0 : w2.cell? ⟨w.heap.size, 0, none⟩ = some (.int .i64 H) := (h2.cell (p := ⟨w.heap.size, 0, none⟩) (by first | (simp; done) | (simp; omega))).trans (by go_cell); have k1 : w2.cell? ⟨w.heap.size, 1, none⟩ = some (.int .i64 W) := (h2.cell (p := ⟨w.heap.size, 1, none⟩) (by first | (simp; done) | (simp; omega))).trans (by go_cell); have k2 : w2.cell? ⟨w.heap.size, 2, none⟩ = some (.int .i64 C) := (h2.cell (p := ⟨w.heap.size, 2, none⟩) (by first | (simp; done) | (simp; omega))).trans (by go_cell); have z2 : Below w.heap.size w w2 := (by go_grown : Below w.heap.size w _).trans (h2.mono (by simp; omega)); have l2 : w1.heap.size < w2.heap.size := (by have := h2.size; simp at this; omega))))
      | (go_at_call 22; ((with_reducible refine (index_to H W C _ _ _ _ _ HB.out HR.out _).mono ?_); rintro e w3 ⟨rfl, h3⟩))
      | (go_at_call 26; refine (known04 _).mono ?_; rintro e w6 ⟨rfl, h6⟩))
    go_ret
    exact ⟨rfl, (z2.trans (h3.mono (by omega))).trans (h6.mono (by have := h3.size; omega))⟩
  · have HI := Lib.hid (show i < 0 ∨ elemsZ H W C ≤ i by omega)
    have cs : i < 0 ∨ 0 ≤ i ∧ n ≤ i := by omega
    have HN := Lib.hid hn
    clear hi hn
    have HE := eqPlace 0 0 0 0 0 0
    have hg := Try.eqGuardType49
    rcases cs with k1 | ⟨k1, k2⟩
    · go_enter Try.func8, Try.ntmps8
      go_wp2_with (first
        | (go_at_call 27; (refine (place_no _ _ _ _ HI.out _).mono ?_; rintro e w1 ⟨rfl, h1⟩; have b1 : Below (w.heap.size + 1) (w.alloc (.cells #[.int .i64 H, .int .i64 W, .int .i64 C] 42)) w1 := h1.mono (by simp); obtain ⟨c10, c11, c12, s1, z1⟩ := Kit.box_3 b1; have l1 : w.heap.size < w1.heap.size := s1; have n1 : ¬ w.heap.size = w1.heap.size := Nat.ne_of_lt l1; have n2 : ¬ w1.heap.size = w.heap.size := Nat.ne_of_gt l1))
        | (go_at_call 26; refine (known04 _).mono ?_; rintro e w6 ⟨rfl, h6⟩))
      go_ret
      exact ⟨rfl, (by go_grown : Below w.heap.size w _).trans (h6.mono (by simp; omega))⟩
    · go_enter Try.func8, Try.ntmps8
      go_wp2_with (first
        | (go_at_call 27; (refine (place_no _ _ _ _ HI.out _).mono ?_; rintro e w1 ⟨rfl, h1⟩; have b1 : Below (w.heap.size + 1) (w.alloc (.cells #[.int .i64 H, .int .i64 W, .int .i64 C] 42)) w1 := h1.mono (by simp); obtain ⟨c10, c11, c12, s1, z1⟩ := Kit.box_3 b1; have l1 : w.heap.size < w1.heap.size := s1; have n1 : ¬ w.heap.size = w1.heap.size := Nat.ne_of_lt l1; have n2 : ¬ w1.heap.size = w.heap.size := Nat.ne_of_gt l1))
        | (go_at_call 21; ((with_reducible refine (refElems_to H W C _ HN.out _).mono ?_); (rintro e w2 ⟨rfl, h2⟩; have d0 : w2.cell? ⟨w1.heap.size, 0, none⟩ = some (.int .i64 0) := (h2.cell (p := ⟨w1.heap.size, 0, none⟩) (by first | (simp; done) | (simp; omega))).trans (by go_cell); have d1 : w2.cell? ⟨w1.heap.size, 1, none⟩ = some (.int .i64 0) := (h2.cell (p := ⟨w1.heap.size, 1, none⟩) (by first | (simp; done) | (simp; omega))).trans (by go_cell); have d2 : w2.cell? ⟨w1.heap.size, 2, none⟩ = some (.int .i64 0) := (h2.cell (p := ⟨w1.heap.size, 2, none⟩) (by first | (simp; done) | (simp; omega))).trans (by go_cell); have z2 : Below w.heap.size w w2 := (by go_grown : Below w.heap.size w _).trans (h2.mono (by simp; omega)); have l2 : w1.heap.size < w2.heap.size := (by have := h2.size; simp at this; omega))))
        | (go_at_call 26; refine (known04 _).mono ?_; rintro e w6 ⟨rfl, h6⟩))
      go_ret
      exact ⟨rfl, z2.trans (h6.mono (by omega))⟩
/-! ### the frame: written by program -/
theorem own : ownKnob Try.prog.godebug = none := by kernel_rfl
theorem laid : laidOutB Try.prog = true := by kernel_rfl
theorem contract {H : Type} {enc : TypeId × Value → H} {W : World} {base : Nat} {args : Array Value} {ds gs : List (DataW H)} {before : List MemPlace}
    (hval0 : ∀ (j : Nat) t v, Try.f8.params[j]? = some t → args[j]? = some v → Value.okWide Try.prog W .any base t v)
    (hW : DataW.Whole enc Try.prog Try.f8.params.toList Rows.shapeBackSpec.vars false W args.toList ds gs before) :
    Calls Try.prog 8 args W fun e W' => e = .returned (.bool true) ∧ Below W.heap.size W W' := by
  have hval : ∀ (j : Nat) t v, Try.f8.params[j]? = some t → args[j]? = some v → Value.okWide Try.prog W .any base t v := hval0
  obtain ⟨p, q, hA0, hV, rfl, hfz, hnd⟩ := hW
  have hA : DataW.TrodAll enc Try.prog W 0 (fun _ => true) true Try.f8.params.toList args.toList ds p := hA0
  rw [Try.params8] at hA hval
  obtain ⟨v0, vs0, d0, ds0, p0, q0, hargs, rfl, rfl, h0, r0⟩ := trodAll_cons hA
  obtain ⟨v1, vs1, d1, ds1, p1, q1, rfl, rfl, rfl, h1, r1⟩ := trodAll_cons r0
  obtain ⟨rfl, rfl, rfl⟩ := trodAll_nil r1
  obtain rfl : args = #[v0, v1] := by cases args; simp_all
  clear hA0 hval0
  obtain ⟨cs0, rfl, hs0, hf0⟩ := Kit.open_flat Try.underlying42 (by kernel_rfl) (by kernel_rfl) (hval 0 42 v0 rfl rfl) h0
  obtain ⟨u0_0, u0_1, u0_2, rfl⟩ := Kit.size_3 hs0
  obtain ⟨a0_0, rfl, w0_0⟩ := Kit.flat_int Try.underlying3 (v := u0_0) rfl (hf0 0 _ rfl)
  obtain ⟨a0_1, rfl, w0_1⟩ := Kit.flat_int Try.underlying3 (v := u0_1) rfl (hf0 1 _ rfl)
  obtain ⟨a0_2, rfl, w0_2⟩ := Kit.flat_int Try.underlying3 (v := u0_2) rfl (hf0 2 _ rfl)
  obtain ⟨a1, rfl, rfl, rfl, w1⟩ := open_int Try.underlying3 (hval 1 3 v1 rfl rfl) h1
  exact walk (w := W) a0_0 w0_0 a0_1 w0_1 a0_2 w0_2 a1 w1
theorem fnIs {H : Type} : ∀ ds : List (DataW H), ds.length = Try.f8.params.toList.length → Rows.shapeBackSpec.fn H ds = { results := [.lit (.bool true)], args := ds } := by
  intro ds h
  rw [Try.params8] at h
  match ds, h with
  | [d1, d2], _ => rfl
set_option maxRecDepth 100000 in
theorem lifted (os : Os) (started : os.Started) (H : Type) (enc : TypeId × Value → H) :
    ReturnsInHanded {} Try.checked os 8 .any (Rows.shapeBackSpec.pre6 enc Try.prog Try.f8 Rows.shapeBackRow.domain false) (Rows.shapeBackSpec.post enc Try.prog Try.f8 false true false false) := by
  refine returnsInHanded_of_change (C := Try.checked) own started (by kernel_rfl) Try.func8
    (ChangeSpec.witness6 (enc := enc) (C := Try.checked) false ⟨#[], #[.agg #[.int .i64 0, .int .i64 0, .int .i64 0], .int .i64 0], []⟩ 8 (by kernel_rfl) (by kernel_rfl) (by kernel_rfl) (by kernel_rfl)) ?_
  intro W base args ds gs before hval hW _ _
  refine (contract hval hW).mono fun e W' ⟨he, hg⟩ => ?_
  subst he
  exact ⟨_, rfl, Kit.law_post (tb := 4) laid (by kernel_rfl) rfl (by kernel_rfl) Try.underlying4 fnIs hW hg⟩
theorem over : Rows.shapeBackRow.holds Try.pinned (OpenSpec.ofChange Rows.shapeBackSpec) :=
  OpenClaim.holds_of_wide 8 Try.f8 rfl rfl rfl rfl rfl rfl rfl ⟨rfl, rfl, rfl, rfl, rfl⟩ rfl rfl rfl rfl rfl (by kernel_rfl) Try.func8 (by kernel_rfl)
    (of_decide_eq_true (by kernel_rfl)) (by unfold Func.isWrapper; first | (rw [if_pos (by decide +kernel)]; kernel_rfl) | (rw [if_neg (by decide +kernel)]; exact ⟨rfl, rfl⟩))
    (fun os started H enc _ => lifted os started H enc)
/-- the statement. -/
theorem proved : Rows.ShapeBackSaid :=
  over
end Go.Proofs.Yteoigdpclnickaa.lawShapeBack
