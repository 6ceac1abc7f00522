/- ShapeLast: the last window lies within, and one more would not; the call returns true and leaves its arguments as they were. No condition. -/
import Derived.Test.YteoigdpclnickaaShapeRefTwo
namespace Go.Proofs.Yteoigdpclnickaa.lawShapeLast
open Go Go.ChangeShapes Go.WideShapes Go.ChangeAt Go.RowKit
open Plain CSat CShape
set_option linter.unusedVariables false

theorem walk (n : Int) (wn : (Lit.int .u8 n).wf = true) (k : Int) (wk : (Lit.int .u8 k).wf = true) (s : Int) (ws : (Lit.int .u8 s).wf = true) (p : Int) (wp : (Lit.int .u8 p).wf = true) (w : World) :
    Calls Try.prog 10 #[.int .u8 n, .int .u8 k, .int .u8 s, .int .u8 p] w fun e w' => e = .returned (.bool true) ∧ Below w.heap.size w w' := by
  obtain ⟨n1, n2⟩ := bounds_u8 wn
  obtain ⟨k1, k2⟩ := bounds_u8 wk
  obtain ⟨s1, s2⟩ := bounds_u8 ws
  obtain ⟨p1, p2⟩ := bounds_u8 wp
  clear wn wk ws wp
  obtain ⟨m, hm⟩ : ∃ m, stepsM (n + 1) (k % 5 + 1) (s % 4 + 1) (p % 5) = m := ⟨_, rfl⟩
  obtain ⟨e, he⟩ : ∃ e, stepsE (n + 1) (k % 5 + 1) (s % 4 + 1) (p % 5) = e := ⟨_, rfl⟩
  have HM := Lib.hid hm
  have HE := Lib.hid he
  unfold stepsM at hm
  unfold stepsE at he
  obtain ⟨S, hS⟩ : ∃ S, s % 4 + 1 = S := ⟨_, rfl⟩
  obtain ⟨K, hK⟩ : ∃ K, k % 5 + 1 = K := ⟨_, rfl⟩
  obtain ⟨D, hD⟩ : ∃ D, p % 5 = D := ⟨_, rfl⟩
  have cs : (e ≠ 0 ∧ m = 0 ∧ (D ≥ K ∨ D < K ∧ K > n + 1 + 2 * D)) ∨ (e = 0 ∧ 1 ≤ m ∧ m ≤ 2000 ∧ (m - 1) * S + K ≤ n + 1 + 2 * D ∧ m * S + K > n + 1 + 2 * D) := by
    rw [hS, hK, hD] at hm he
    cases h : argsB (n + 1) K S D
    · rw [if_neg (by simp [h])] at hm he
      have := argsB_no h
      omega
    · rw [if_pos h] at hm he
      obtain ⟨h1, h2, h3, h4, h5, h6, h7, h8, h9⟩ := argsB_yes h
      have hs : S = 1 ∨ S = 2 ∨ S = 3 ∨ S = 4 := by omega
      rcases hs with h0 | h0 | h0 | h0 <;> rw [h0] at hm ⊢ <;> omega
  rcases cs with ⟨c1, c2, c3⟩ | ⟨c1, c2, c3, c4, c5⟩
  · rcases c3 with c3 | ⟨c3, c4⟩
    all_goals
      clear hm he
      subst hS hK hD
      go_enter Try.func10, Try.ntmps10
      go_wp2_with (first
        | (go_at_call 28; refine (steps_to _ _ _ _ _ _ HM.out HE.out _).mono ?_; rintro e w' ⟨rfl, rfl⟩)
        | (go_at_call 26; refine (known04 _).mono ?_; rintro e w6 ⟨rfl, h6⟩))
      go_ret
      exact ⟨rfl, h6⟩
  · have d1 : (m - 1) * S = m * S - S := by rw [Int.sub_mul, Int.one_mul]
    have d2 : 0 ≤ (m - 1) * S := Int.mul_nonneg (by omega) (by omega)
    clear hm he
    subst hS hK hD
    go_enter Try.func10, Try.ntmps10
    go_wp2_with (first
      | (go_at_call 28; refine (steps_to _ _ _ _ _ _ HM.out HE.out _).mono ?_; rintro e w' ⟨rfl, rfl⟩)
      | (go_at_call 26; refine (known04 _).mono ?_; rintro e w6 ⟨rfl, h6⟩))
    go_ret
    exact ⟨rfl, h6⟩
/-! ### the frame: written by program -/
theorem own : ownKnob Try.prog.godebug = none := by kernel_rfl
theorem laid : laidOutB Try.prog = true := by kernel_rfl
theorem contract {H : Type} {enc : TypeId × Value → H} {W : World} {base : Nat} {args : Array Value} {ds gs : List (DataW H)} {before : List MemPlace}
    (hval0 : ∀ (j : Nat) t v, Try.f10.params[j]? = some t → args[j]? = some v → Value.okWide Try.prog W .any base t v)
    (hW : DataW.Whole enc Try.prog Try.f10.params.toList Rows.shapeLastSpec.vars false W args.toList ds gs before) :
    Calls Try.prog 10 args W fun e W' => e = .returned (.bool true) ∧ Below W.heap.size W W' := by
  have hval : ∀ (j : Nat) t v, Try.f10.params[j]? = some t → args[j]? = some v → Value.okWide Try.prog W .any base t v := hval0
  obtain ⟨p, q, hA0, hV, rfl, hfz, hnd⟩ := hW
  have hA : DataW.TrodAll enc Try.prog W 0 (fun _ => true) true Try.f10.params.toList args.toList ds p := hA0
  rw [Try.params10] at hA hval
  obtain ⟨v0, vs0, d0, ds0, p0, q0, hargs, rfl, rfl, h0, r0⟩ := trodAll_cons hA
  obtain ⟨v1, vs1, d1, ds1, p1, q1, rfl, rfl, rfl, h1, r1⟩ := trodAll_cons r0
  obtain ⟨v2, vs2, d2, ds2, p2, q2, rfl, rfl, rfl, h2, r2⟩ := trodAll_cons r1
  obtain ⟨v3, vs3, d3, ds3, p3, q3, rfl, rfl, rfl, h3, r3⟩ := trodAll_cons r2
  obtain ⟨rfl, rfl, rfl⟩ := trodAll_nil r3
  obtain rfl : args = #[v0, v1, v2, v3] := by cases args; simp_all
  clear hA0 hval0
  obtain ⟨a0, rfl, rfl, rfl, w0⟩ := open_int Try.underlying5 (hval 0 5 v0 rfl rfl) h0
  obtain ⟨a1, rfl, rfl, rfl, w1⟩ := open_int Try.underlying5 (hval 1 5 v1 rfl rfl) h1
  obtain ⟨a2, rfl, rfl, rfl, w2⟩ := open_int Try.underlying5 (hval 2 5 v2 rfl rfl) h2
  obtain ⟨a3, rfl, rfl, rfl, w3⟩ := open_int Try.underlying5 (hval 3 5 v3 rfl rfl) h3
  exact walk (w := W) a0 w0 a1 w1 a2 w2 a3 w3
theorem fnIs {H : Type} : ∀ ds : List (DataW H), ds.length = Try.f10.params.toList.length → Rows.shapeLastSpec.fn H ds = { results := [.lit (.bool true)], args := ds } := by
  intro ds h
  rw [Try.params10] at h
  match ds, h with
  | [d1, d2, d3, d4], _ => rfl
set_option maxRecDepth 100000 in
theorem lifted (os : Os) (started : os.Started) (H : Type) (enc : TypeId × Value → H) :
    ReturnsInHanded {} Try.checked os 10 .any (Rows.shapeLastSpec.pre6 enc Try.prog Try.f10 Rows.shapeLastRow.domain false) (Rows.shapeLastSpec.post enc Try.prog Try.f10 false true false false) := by
  refine returnsInHanded_of_change (C := Try.checked) own started (by kernel_rfl) Try.func10
    (ChangeSpec.witness6 (enc := enc) (C := Try.checked) false ⟨#[], #[.int .u8 0, .int .u8 0, .int .u8 0, .int .u8 0], []⟩ 8 (by kernel_rfl) (by kernel_rfl) (by kernel_rfl) (by kernel_rfl)) ?_
  intro W base args ds gs before hval hW _ _
  refine (contract hval hW).mono fun e W' ⟨he, hg⟩ => ?_
  subst he
  exact ⟨_, rfl, Kit.law_post (tb := 4) laid (by kernel_rfl) rfl (by kernel_rfl) Try.underlying4 fnIs hW hg⟩
theorem over : Rows.shapeLastRow.holds Try.pinned (OpenSpec.ofChange Rows.shapeLastSpec) :=
  OpenClaim.holds_of_wide 10 Try.f10 rfl rfl rfl rfl rfl rfl rfl ⟨rfl, rfl, rfl, rfl, rfl⟩ rfl rfl rfl rfl rfl (by kernel_rfl) Try.func10 (by kernel_rfl)
    (of_decide_eq_true (by kernel_rfl)) (by unfold Func.isWrapper; first | (rw [if_pos (by decide +kernel)]; kernel_rfl) | (rw [if_neg (by decide +kernel)]; exact ⟨rfl, rfl⟩))
    (fun os started H enc _ => lifted os started H enc)
/-- the statement. -/
theorem proved : Rows.ShapeLastSaid :=
  over
end Go.Proofs.Yteoigdpclnickaa.lawShapeLast
