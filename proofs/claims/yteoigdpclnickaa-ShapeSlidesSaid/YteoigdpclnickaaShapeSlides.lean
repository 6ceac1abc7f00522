/- ShapeSlides: how often any window lies within any length, and the shape that it makes of any other one, or why there is none, is that of the document; the call returns true and leaves its arguments as they were. No condition. -/
import Derived.Test.YteoigdpclnickaaShapeRefTwo
import Derived.Laws.StructEq
namespace Go.Proofs.Yteoigdpclnickaa.lawShapeSlides
open Go Go.ChangeShapes Go.WideShapes Go.ChangeAt Go.RowKit
open Plain CSat CShape
set_option linter.unusedVariables false

theorem eqShape (a b c x y z : Int) (w : World) : (Op.equalIn 10000 42 (.agg #[.int .i64 a, .int .i64 b, .int .i64 c]) (.agg #[.int .i64 x, .int .i64 y, .int .i64 z])).run Try.prog w = .ok (a == x && (b == y && c == z)) w := by
  have u3 := Try.underlying3
  have a3 := Try.isAgg3
  have z3 := Try.sizeOf3
  have hS : Try.prog.underlying 42 = some (.struct (Try.prog.fieldsOf 42)) := by kernel_rfl
  rw [show (10000 : Nat) = 9999 + 1 from rfl, run_equalIn_agg w 9999 42 _ _ hS Try.stoodInHeld42]
  simp only [Program.fieldsOf, Try.underlying42]
  go_simp
  by_cases h1 : a = x <;> by_cases h2 : b = y <;> by_cases h3 : c = z <;> simp [h1, h2, h3]

theorem walk (H : Int) (wH : (Lit.int .i64 H).wf = true) (W : Int) (wW : (Lit.int .i64 W).wf = true) (C : Int) (wC : (Lit.int .i64 C).wf = true) (k : Int) (wk : (Lit.int .i64 k).wf = true) (s : Int) (ws : (Lit.int .i64 s).wf = true)
    (p : Int) (wp : (Lit.int .i64 p).wf = true) (o : Int) (wo : (Lit.int .i64 o).wf = true) (n : Int) (wn : (Lit.int .i64 n).wf = true) (w : World) :
    Calls Try.prog 9 #[.agg #[.int .i64 H, .int .i64 W, .int .i64 C], .agg #[.int .i64 k, .int .i64 s, .int .i64 p, .int .i64 o], .int .i64 n] w fun e w' => e = .returned (.bool true) ∧ Below w.heap.size w w' := by
  clear wH wW wC wk ws wp wo wn
  obtain ⟨m, hm⟩ : ∃ m, stepsM n k s p = m := ⟨_, rfl⟩
  obtain ⟨e, he⟩ : ∃ e, stepsE n k s p = e := ⟨_, rfl⟩
  obtain ⟨f, hf⟩ : ∃ e, slideE H W C k s p o = e := ⟨_, rfl⟩
  obtain ⟨x, y, z, hv⟩ : ∃ x y z : Int, slideS H W C k s p o = #[.int .i64 x, .int .i64 y, .int .i64 z] := by
    unfold slideS
    split
    · exact ⟨_, _, _, rfl⟩
    · exact ⟨_, _, _, rfl⟩
  have HM := Lib.hid hm
  have HE := Lib.hid he
  have HF := Lib.hid hf
  have HV := Lib.hid hv
  clear hm he hf hv
  have HQ := eqShape x y z x y z
  have hg := Try.eqGuardType42
  go_enter Try.func9, Try.ntmps9
  go_wp2_with fail
  go_quiet (fail)
  go_wp2_with (first
    | (go_at_call 28; refine (steps_to _ _ _ _ _ _ HM.out HE.out _).mono ?_; rintro e w' ⟨rfl, rfl⟩)
    | (go_at_call 29; refine (refSteps_to _ _ _ _ _ _ HM.out HE.out _).mono ?_; rintro e w' ⟨rfl, rfl⟩)
    | (go_at_call 30; (refine (slide_to _ _ _ _ _ _ _ _ _ HF.out HV.out _).mono ?_; rintro e w1 ⟨rfl, h1⟩; have s1 : w.heap.size + 1 < w1.heap.size := (by have := h1.size; simp at this; omega); have c0 : w1.cell? ⟨w.heap.size, 0, none⟩ = some (.int .i64 H) := (h1.cell (p := ⟨w.heap.size, 0, none⟩) (by first | (simp; done) | (simp; omega))).trans (by go_cell); have c1 : w1.cell? ⟨w.heap.size, 1, none⟩ = some (.int .i64 W) := (h1.cell (p := ⟨w.heap.size, 1, none⟩) (by first | (simp; done) | (simp; omega))).trans (by go_cell); have c2 : w1.cell? ⟨w.heap.size, 2, none⟩ = some (.int .i64 C) := (h1.cell (p := ⟨w.heap.size, 2, none⟩) (by first | (simp; done) | (simp; omega))).trans (by go_cell); have z1 : Below w.heap.size w w1 := (Kit.below_drewN (((Below.refl _ _).alloc (Nat.le_refl _) _).alloc (by simp) _) _).trans (h1.mono (by simp; omega)); have l1 : w.heap.size < w1.heap.size := (by omega); have n1 : ¬ w.heap.size = w1.heap.size := Nat.ne_of_lt l1; have n2 : ¬ w1.heap.size = w.heap.size := Nat.ne_of_gt l1))
    | (go_at_call 31; (refine (refSlide_to _ _ _ _ _ _ _ _ _ HF.out HV.out _).mono ?_; rintro e w2 ⟨rfl, h2⟩; have s2 : w1.heap.size < w2.heap.size := (by have := h2.size; simp at this; omega); have d0 : w2.cell? ⟨w1.heap.size, 0, none⟩ = some (.int .i64 x) := (h2.cell (p := ⟨w1.heap.size, 0, none⟩) (by first | (simp; done) | (simp; omega))).trans (by go_cell); have d1 : w2.cell? ⟨w1.heap.size, 1, none⟩ = some (.int .i64 y) := (h2.cell (p := ⟨w1.heap.size, 1, none⟩) (by first | (simp; done) | (simp; omega))).trans (by go_cell); have d2 : w2.cell? ⟨w1.heap.size, 2, none⟩ = some (.int .i64 z) := (h2.cell (p := ⟨w1.heap.size, 2, none⟩) (by first | (simp; done) | (simp; omega))).trans (by go_cell); have z2 : Below w.heap.size w w2 := (by go_grown : Below w.heap.size w _).trans (h2.mono (by simp; omega)); have n3 : ¬ w1.heap.size = w2.heap.size := Nat.ne_of_lt s2; have n4 : ¬ w2.heap.size = w1.heap.size := Nat.ne_of_gt s2))
    | (go_at_call 26; refine (known04 _).mono ?_; rintro e w6 ⟨rfl, h6⟩))
  go_ret
  exact ⟨rfl, (by go_grown : Below w.heap.size w _).trans (h6.mono (by simp; omega))⟩
/-! ### the frame: written by program -/
theorem own : ownKnob Try.prog.godebug = none := by kernel_rfl
theorem laid : laidOutB Try.prog = true := by kernel_rfl
theorem contract {H : Type} {enc : TypeId × Value → H} {W : World} {base : Nat} {args : Array Value} {ds gs : List (DataW H)} {before : List MemPlace}
    (hval0 : ∀ (j : Nat) t v, Try.f9.params[j]? = some t → args[j]? = some v → Value.okWide Try.prog W .any base t v)
    (hW : DataW.Whole enc Try.prog Try.f9.params.toList Rows.shapeSlidesSpec.vars false W args.toList ds gs before) :
    Calls Try.prog 9 args W fun e W' => e = .returned (.bool true) ∧ Below W.heap.size W W' := by
  have hval : ∀ (j : Nat) t v, Try.f9.params[j]? = some t → args[j]? = some v → Value.okWide Try.prog W .any base t v := hval0
  obtain ⟨p, q, hA0, hV, rfl, hfz, hnd⟩ := hW
  have hA : DataW.TrodAll enc Try.prog W 0 (fun _ => true) true Try.f9.params.toList args.toList ds p := hA0
  rw [Try.params9] at hA hval
  obtain ⟨v0, vs0, d0, ds0, p0, q0, hargs, rfl, rfl, h0, r0⟩ := trodAll_cons hA
  obtain ⟨v1, vs1, d1, ds1, p1, q1, rfl, rfl, rfl, h1, r1⟩ := trodAll_cons r0
  obtain ⟨v2, vs2, d2, ds2, p2, q2, rfl, rfl, rfl, h2, r2⟩ := trodAll_cons r1
  obtain ⟨rfl, rfl, rfl⟩ := trodAll_nil r2
  obtain rfl : args = #[v0, v1, v2] := by cases args; simp_all
  clear hA0 hval0
  obtain ⟨cs0, rfl, hs0, hf0⟩ := Kit.open_flat Try.underlying42 (by kernel_rfl) (by kernel_rfl) (hval 0 42 v0 rfl rfl) h0
  obtain ⟨u0_0, u0_1, u0_2, rfl⟩ := Kit.size_3 hs0
  obtain ⟨a0_0, rfl, w0_0⟩ := Kit.flat_int Try.underlying3 (v := u0_0) rfl (hf0 0 _ rfl)
  obtain ⟨a0_1, rfl, w0_1⟩ := Kit.flat_int Try.underlying3 (v := u0_1) rfl (hf0 1 _ rfl)
  obtain ⟨a0_2, rfl, w0_2⟩ := Kit.flat_int Try.underlying3 (v := u0_2) rfl (hf0 2 _ rfl)
  obtain ⟨cs1, rfl, hs1, hf1⟩ := Kit.open_array Try.underlying53 (by kernel_rfl) (by kernel_rfl) (hval 1 53 v1 rfl rfl) h1
  obtain ⟨u1_0, u1_1, u1_2, u1_3, rfl⟩ := Kit.size_4 hs1
  obtain ⟨a1_0, rfl, w1_0⟩ := Kit.flat_int Try.underlying3 (v := u1_0) rfl (hf1 0 (by decide))
  obtain ⟨a1_1, rfl, w1_1⟩ := Kit.flat_int Try.underlying3 (v := u1_1) rfl (hf1 1 (by decide))
  obtain ⟨a1_2, rfl, w1_2⟩ := Kit.flat_int Try.underlying3 (v := u1_2) rfl (hf1 2 (by decide))
  obtain ⟨a1_3, rfl, w1_3⟩ := Kit.flat_int Try.underlying3 (v := u1_3) rfl (hf1 3 (by decide))
  obtain ⟨a2, rfl, rfl, rfl, w2⟩ := open_int Try.underlying3 (hval 2 3 v2 rfl rfl) h2
  exact walk (w := W) a0_0 w0_0 a0_1 w0_1 a0_2 w0_2 a1_0 w1_0 a1_1 w1_1 a1_2 w1_2 a1_3 w1_3 a2 w2
theorem fnIs {H : Type} : ∀ ds : List (DataW H), ds.length = Try.f9.params.toList.length → Rows.shapeSlidesSpec.fn H ds = { results := [.lit (.bool true)], args := ds } := by
  intro ds h
  rw [Try.params9] at h
  match ds, h with
  | [d1, d2, d3], _ => rfl
set_option maxRecDepth 100000 in
theorem lifted (os : Os) (started : os.Started) (H : Type) (enc : TypeId × Value → H) :
    ReturnsInHanded {} Try.checked os 9 .any (Rows.shapeSlidesSpec.pre6 enc Try.prog Try.f9 Rows.shapeSlidesRow.domain false) (Rows.shapeSlidesSpec.post enc Try.prog Try.f9 false true false false) := by
  refine returnsInHanded_of_change (C := Try.checked) own started (by kernel_rfl) Try.func9
    (ChangeSpec.witness6 (enc := enc) (C := Try.checked) false ⟨#[], #[.agg #[.int .i64 0, .int .i64 0, .int .i64 0], .agg #[.int .i64 0, .int .i64 0, .int .i64 0, .int .i64 0], .int .i64 0], []⟩ 8 (by kernel_rfl) (by kernel_rfl) (by kernel_rfl) (by kernel_rfl)) ?_
  intro W base args ds gs before hval hW _ _
  refine (contract hval hW).mono fun e W' ⟨he, hg⟩ => ?_
  subst he
  exact ⟨_, rfl, Kit.law_post (tb := 4) laid (by kernel_rfl) rfl (by kernel_rfl) Try.underlying4 fnIs hW hg⟩
theorem over : Rows.shapeSlidesRow.holds Try.pinned (OpenSpec.ofChange Rows.shapeSlidesSpec) :=
  OpenClaim.holds_of_wide 9 Try.f9 rfl rfl rfl rfl rfl rfl rfl ⟨rfl, rfl, rfl, rfl, rfl⟩ rfl rfl rfl rfl rfl (by kernel_rfl) Try.func9 (by kernel_rfl)
    (of_decide_eq_true (by kernel_rfl)) (by unfold Func.isWrapper; first | (rw [if_pos (by decide +kernel)]; kernel_rfl) | (rw [if_neg (by decide +kernel)]; exact ⟨rfl, rfl⟩))
    (fun os started H enc _ => lifted os started H enc)
/-- the statement. -/
theorem proved : Rows.ShapeSlidesSaid :=
  over
end Go.Proofs.Yteoigdpclnickaa.lawShapeSlides
