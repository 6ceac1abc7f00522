/- ShapeIs: any shape may be, and has as many numbers, and any place in it is, as the document says; the call returns true and leaves its arguments as they were. No condition. -/
import Derived.Test.YteoigdpclnickaaShapeRefTwo
namespace Go.Proofs.Yteoigdpclnickaa.lawShapeIs
open Go Go.ChangeShapes Go.WideShapes Go.ChangeAt Go.RowKit
open Plain CSat CShape
set_option linter.unusedVariables false

theorem walk (H : Int) (wH : (Lit.int .i64 H).wf = true) (W : Int) (wW : (Lit.int .i64 W).wf = true) (C : Int) (wC : (Lit.int .i64 C).wf = true) (h : Int) (wh : (Lit.int .i64 h).wf = true) (v : Int) (wv : (Lit.int .i64 v).wf = true) (c : Int) (wc : (Lit.int .i64 c).wf = true) (w : World) :
    Calls Try.prog 7 #[.agg #[.int .i64 H, .int .i64 W, .int .i64 C], .int .i64 h, .int .i64 v, .int .i64 c] w fun e w' => e = .returned (.bool true) ∧ Below w.heap.size w w' := by
  clear wH wW wC wh wv wc
  obtain ⟨n, hn⟩ : ∃ n, elemsZ H W C = n := ⟨_, rfl⟩
  obtain ⟨g, hg⟩ : ∃ g, shapeB H W C = g := ⟨_, rfl⟩
  obtain ⟨b, hb⟩ : ∃ b, inB H W C h v c = b := ⟨_, rfl⟩
  obtain ⟨r, hr⟩ : ∃ r, indexZ H W C h v c 0 = r := ⟨_, rfl⟩
  obtain ⟨r', hq⟩ : ∃ r, indexZ H W C h v c (-1) = r := ⟨_, rfl⟩
  have cs : (g = false ∧ n = 0 ∧ b = false ∧ r = 0 ∧ r' = -1) ∨ (g = true ∧ 1 ≤ n ∧ b = false ∧ r = 0 ∧ r' = -1) ∨ (g = true ∧ 1 ≤ n ∧ b = true ∧ r = r' ∧ 0 ≤ r') := by
    cases hgg : g
    · have hb0 : b = false := by rw [← hb]; simp [inB, hg, hgg]
      exact .inl ⟨rfl, by rw [← hn]; exact elemsZ_no (by rw [hg, hgg]), hb0, hr ▸ indexZ_no (hb.trans hb0), hq ▸ indexZ_no (hb.trans hb0)⟩
    · obtain ⟨m, m0, m1, m2⟩ := elemsZ_some (hg.trans hgg)
      have hn1 : 1 ≤ n := by omega
      cases hbb : b
      · exact .inr (.inl ⟨rfl, hn1, rfl, hr ▸ indexZ_no (hb.trans hbb), hq ▸ indexZ_no (hb.trans hbb)⟩)
      · have hi := hb.trans hbb
        simp only [inB, Bool.and_eq_true, decide_eq_true_eq] at hi
        obtain ⟨i0, i1, i2, i3, i4, i5, i6⟩ := hi
        have := at_bd i0 i1 i2 i3 i4 i5 i6
        have e1 : r = _ := hr ▸ indexZ_yes (hb.trans hbb)
        have e2 : r' = _ := hq ▸ indexZ_yes (hb.trans hbb)
        exact .inr (.inr ⟨rfl, hn1, rfl, by omega, by omega⟩)
  have HN := Lib.hid hn
  have HG := Lib.hid hg
  have HB := Lib.hid hb
  have HR := Lib.hid hr
  have HQ := Lib.hid hq
  clear hn hg hb hr hq
  rcases cs with ⟨rfl, rfl, rfl, rfl, rfl⟩ | ⟨rfl, k1, rfl, rfl, rfl⟩ | ⟨rfl, k1, rfl, rfl, k2⟩
  · have t1 : decide ((0 : Int) > 0) = false := by decide
    have t2 : decide ((-1 : Int) ≥ 0) = false := by decide
    go_enter Try.func7, Try.ntmps7
    go_wp2_with (first
      | (go_at_call 21; ((with_reducible refine (refElems_to H W C _ HN.out _).mono ?_); rintro e w1 ⟨rfl, h1⟩; have b1 : Below (w.heap.size + 1) (w.alloc (.cells #[.int .i64 H, .int .i64 W, .int .i64 C] 42)) w1 := h1.mono (by simp); obtain ⟨c10, c11, c12, s1, z1⟩ := Kit.box_3 b1))
      | (go_at_call 22; ((with_reducible refine (index_to H W C h v c _ _ HB.out HR.out _).mono ?_); rintro e w2 ⟨rfl, h2⟩; have b2 := b1.trans (h2.mono s1); obtain ⟨c20, c21, c22, s2, z2⟩ := Kit.box_3 b2))
      | (go_at_call 23; ((with_reducible refine (refIndex_to H W C h v c _ HQ.out _).mono ?_); rintro e w3 ⟨rfl, h3⟩; have b3 := b2.trans (h3.mono s2); obtain ⟨c30, c31, c32, s3, z3⟩ := Kit.box_3 b3))
      | (go_at_call 24; ((with_reducible refine (elems_to H W C _ HN.out _).mono ?_); rintro e w4 ⟨rfl, h4⟩; have b4 := b3.trans (h4.mono s3); obtain ⟨c40, c41, c42, s4, z4⟩ := Kit.box_3 b4))
      | (go_at_call 25; ((with_reducible refine (right_to H W C _ HG.out _).mono ?_); rintro e w5 ⟨rfl, h5⟩; have b5 := b4.trans (h5.mono s4); obtain ⟨c50, c51, c52, s5, z5⟩ := Kit.box_3 b5))
      | (go_at_call 26; refine (known04 _).mono ?_; rintro e w6 ⟨rfl, h6⟩))
    go_ret
    exact ⟨rfl, z5.trans (h6.mono (by omega))⟩
  · have t1 : decide (n > 0) = true := by simp; omega
    go_enter Try.func7, Try.ntmps7
    go_wp2_with (first
      | (go_at_call 21; ((with_reducible refine (refElems_to H W C _ HN.out _).mono ?_); rintro e w1 ⟨rfl, h1⟩; have b1 : Below (w.heap.size + 1) (w.alloc (.cells #[.int .i64 H, .int .i64 W, .int .i64 C] 42)) w1 := h1.mono (by simp); obtain ⟨c10, c11, c12, s1, z1⟩ := Kit.box_3 b1))
      | (go_at_call 22; ((with_reducible refine (index_to H W C h v c _ _ HB.out HR.out _).mono ?_); rintro e w2 ⟨rfl, h2⟩; have b2 := b1.trans (h2.mono s1); obtain ⟨c20, c21, c22, s2, z2⟩ := Kit.box_3 b2))
      | (go_at_call 23; ((with_reducible refine (refIndex_to H W C h v c _ HQ.out _).mono ?_); rintro e w3 ⟨rfl, h3⟩; have b3 := b2.trans (h3.mono s2); obtain ⟨c30, c31, c32, s3, z3⟩ := Kit.box_3 b3))
      | (go_at_call 24; ((with_reducible refine (elems_to H W C _ HN.out _).mono ?_); rintro e w4 ⟨rfl, h4⟩; have b4 := b3.trans (h4.mono s3); obtain ⟨c40, c41, c42, s4, z4⟩ := Kit.box_3 b4))
      | (go_at_call 25; ((with_reducible refine (right_to H W C _ HG.out _).mono ?_); rintro e w5 ⟨rfl, h5⟩; have b5 := b4.trans (h5.mono s4); obtain ⟨c50, c51, c52, s5, z5⟩ := Kit.box_3 b5))
      | (go_at_call 26; refine (known04 _).mono ?_; rintro e w6 ⟨rfl, h6⟩))
    go_ret
    exact ⟨rfl, z5.trans (h6.mono (by omega))⟩
  · have t1 : decide (n > 0) = true := by simp; omega
    go_enter Try.func7, Try.ntmps7
    go_wp2_with (first
      | (go_at_call 21; ((with_reducible refine (refElems_to H W C _ HN.out _).mono ?_); rintro e w1 ⟨rfl, h1⟩; have b1 : Below (w.heap.size + 1) (w.alloc (.cells #[.int .i64 H, .int .i64 W, .int .i64 C] 42)) w1 := h1.mono (by simp); obtain ⟨c10, c11, c12, s1, z1⟩ := Kit.box_3 b1))
      | (go_at_call 22; ((with_reducible refine (index_to H W C h v c _ _ HB.out HR.out _).mono ?_); rintro e w2 ⟨rfl, h2⟩; have b2 := b1.trans (h2.mono s1); obtain ⟨c20, c21, c22, s2, z2⟩ := Kit.box_3 b2))
      | (go_at_call 23; ((with_reducible refine (refIndex_to H W C h v c _ HQ.out _).mono ?_); rintro e w3 ⟨rfl, h3⟩; have b3 := b2.trans (h3.mono s2); obtain ⟨c30, c31, c32, s3, z3⟩ := Kit.box_3 b3))
      | (go_at_call 24; ((with_reducible refine (elems_to H W C _ HN.out _).mono ?_); rintro e w4 ⟨rfl, h4⟩; have b4 := b3.trans (h4.mono s3); obtain ⟨c40, c41, c42, s4, z4⟩ := Kit.box_3 b4))
      | (go_at_call 25; ((with_reducible refine (right_to H W C _ HG.out _).mono ?_); rintro e w5 ⟨rfl, h5⟩; have b5 := b4.trans (h5.mono s4); obtain ⟨c50, c51, c52, s5, z5⟩ := Kit.box_3 b5))
      | (go_at_call 26; refine (known04 _).mono ?_; rintro e w6 ⟨rfl, h6⟩))
    go_ret
    exact ⟨rfl, z5.trans (h6.mono (by omega))⟩

/-! ### the frame: written by program -/
theorem own : ownKnob Try.prog.godebug = none := by kernel_rfl
theorem laid : laidOutB Try.prog = true := by kernel_rfl
theorem contract {H : Type} {enc : TypeId × Value → H} {W : World} {base : Nat} {args : Array Value} {ds gs : List (DataW H)} {before : List MemPlace}
    (hval0 : ∀ (j : Nat) t v, Try.f7.params[j]? = some t → args[j]? = some v → Value.okWide Try.prog W .any base t v)
    (hW : DataW.Whole enc Try.prog Try.f7.params.toList Rows.shapeIsSpec.vars false W args.toList ds gs before) :
    Calls Try.prog 7 args W fun e W' => e = .returned (.bool true) ∧ Below W.heap.size W W' := by
  have hval : ∀ (j : Nat) t v, Try.f7.params[j]? = some t → args[j]? = some v → Value.okWide Try.prog W .any base t v := hval0
  obtain ⟨p, q, hA0, hV, rfl, hfz, hnd⟩ := hW
  have hA : DataW.TrodAll enc Try.prog W 0 (fun _ => true) true Try.f7.params.toList args.toList ds p := hA0
  rw [Try.params7] at hA hval
  obtain ⟨v0, vs0, d0, ds0, p0, q0, hargs, rfl, rfl, h0, r0⟩ := trodAll_cons hA
  obtain ⟨v1, vs1, d1, ds1, p1, q1, rfl, rfl, rfl, h1, r1⟩ := trodAll_cons r0
  obtain ⟨v2, vs2, d2, ds2, p2, q2, rfl, rfl, rfl, h2, r2⟩ := trodAll_cons r1
  obtain ⟨v3, vs3, d3, ds3, p3, q3, rfl, rfl, rfl, h3, r3⟩ := trodAll_cons r2
  obtain ⟨rfl, rfl, rfl⟩ := trodAll_nil r3
  obtain rfl : args = #[v0, v1, v2, v3] := by cases args; simp_all
  clear hA0 hval0
  obtain ⟨cs0, rfl, hs0, hf0⟩ := Kit.open_flat Try.underlying42 (by kernel_rfl) (by kernel_rfl) (hval 0 42 v0 rfl rfl) h0
  obtain ⟨u0_0, u0_1, u0_2, rfl⟩ := Kit.size_3 hs0
  obtain ⟨a0_0, rfl, w0_0⟩ := Kit.flat_int Try.underlying3 (v := u0_0) rfl (hf0 0 _ rfl)
  obtain ⟨a0_1, rfl, w0_1⟩ := Kit.flat_int Try.underlying3 (v := u0_1) rfl (hf0 1 _ rfl)
  obtain ⟨a0_2, rfl, w0_2⟩ := Kit.flat_int Try.underlying3 (v := u0_2) rfl (hf0 2 _ rfl)
  obtain ⟨a1, rfl, rfl, rfl, w1⟩ := open_int Try.underlying3 (hval 1 3 v1 rfl rfl) h1
  obtain ⟨a2, rfl, rfl, rfl, w2⟩ := open_int Try.underlying3 (hval 2 3 v2 rfl rfl) h2
  obtain ⟨a3, rfl, rfl, rfl, w3⟩ := open_int Try.underlying3 (hval 3 3 v3 rfl rfl) h3
  exact walk (w := W) a0_0 w0_0 a0_1 w0_1 a0_2 w0_2 a1 w1 a2 w2 a3 w3
theorem fnIs {H : Type} : ∀ ds : List (DataW H), ds.length = Try.f7.params.toList.length → Rows.shapeIsSpec.fn H ds = { results := [.lit (.bool true)], args := ds } := by
  intro ds h
  rw [Try.params7] at h
  match ds, h with
  | [d1, d2, d3, d4], _ => rfl
set_option maxRecDepth 100000 in
theorem lifted (os : Os) (started : os.Started) (H : Type) (enc : TypeId × Value → H) :
    ReturnsInHanded {} Try.checked os 7 .any (Rows.shapeIsSpec.pre6 enc Try.prog Try.f7 Rows.shapeIsRow.domain false) (Rows.shapeIsSpec.post enc Try.prog Try.f7 false true false false) := by
  refine returnsInHanded_of_change (C := Try.checked) own started (by kernel_rfl) Try.func7
    (ChangeSpec.witness6 (enc := enc) (C := Try.checked) false ⟨#[], #[.agg #[.int .i64 0, .int .i64 0, .int .i64 0], .int .i64 0, .int .i64 0, .int .i64 0], []⟩ 8 (by kernel_rfl) (by kernel_rfl) (by kernel_rfl) (by kernel_rfl)) ?_
  intro W base args ds gs before hval hW _ _
  refine (contract hval hW).mono fun e W' ⟨he, hg⟩ => ?_
  subst he
  exact ⟨_, rfl, Kit.law_post (tb := 4) laid (by kernel_rfl) rfl (by kernel_rfl) Try.underlying4 fnIs hW hg⟩
theorem over : Rows.shapeIsRow.holds Try.pinned (OpenSpec.ofChange Rows.shapeIsSpec) :=
  OpenClaim.holds_of_wide 7 Try.f7 rfl rfl rfl rfl rfl rfl rfl ⟨rfl, rfl, rfl, rfl, rfl⟩ rfl rfl rfl rfl rfl (by kernel_rfl) Try.func7 (by kernel_rfl)
    (of_decide_eq_true (by kernel_rfl)) (by unfold Func.isWrapper; first | (rw [if_pos (by decide +kernel)]; kernel_rfl) | (rw [if_neg (by decide +kernel)]; exact ⟨rfl, rfl⟩))
    (fun os started H enc _ => lifted os started H enc)
/-- the statement. -/
theorem proved : Rows.ShapeIsSaid :=
  over
end Go.Proofs.Yteoigdpclnickaa.lawShapeIs
