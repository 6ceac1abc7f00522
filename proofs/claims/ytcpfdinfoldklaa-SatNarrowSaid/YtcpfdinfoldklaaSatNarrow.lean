/- SatNarrow: of any two numbers of 8, and of 32, bits the sum, the difference and the product are those of the document; the call returns true and leaves its arguments as they were. No condition. -/
import Derived.Test.YtcpfdinfoldklaaSatKnown
namespace Go.Proofs.Ytcpfdinfoldklaa.lawSatNarrow
open Go Go.ChangeShapes Go.WideShapes Go.ChangeAt Go.RowKit
open Plain CSat
set_option linter.unusedVariables false

theorem held_to (v lo hi r : Int) (h : clampZ v lo hi = r) (w : World) :
    Calls Try.prog 13 #[.int .i64 v, .int .i64 lo, .int .i64 hi] w fun e w' => e = .returned (.int .i64 r) ∧ w = w' := h ▸ refHeld v lo hi w
theorem add32_to (a b s : Int) (ha1 : -2147483648 ≤ a) (ha2 : a ≤ 2147483647) (hb1 : -2147483648 ≤ b) (hb2 : b ≤ 2147483647) (h : clampZ (a + b) (-2147483648) 2147483647 = s) (w : World) :
    Calls Try.prog 15 #[.int .i32 a, .int .i32 b] w fun e w' => e = .returned (.int .i32 s) ∧ w = w' := h ▸ add32 a b ha1 ha2 hb1 hb2 w
theorem mul32_to (a b s : Int) (ha1 : -2147483648 ≤ a) (ha2 : a ≤ 2147483647) (hb1 : -2147483648 ≤ b) (hb2 : b ≤ 2147483647) (h : clampZ (a * b) (-2147483648) 2147483647 = s) (w : World) :
    Calls Try.prog 16 #[.int .i32 a, .int .i32 b] w fun e w' => e = .returned (.int .i32 s) ∧ w = w' := h ▸ mul32 a b ha1 ha2 hb1 hb2 w
theorem clampZ_bd (v lo hi : Int) (h : lo ≤ hi) : lo ≤ clampZ v lo hi ∧ clampZ v lo hi ≤ hi := by unfold clampZ; split <;> (try split) <;> omega

theorem walk (a : Int) (wa : (Lit.int .i8 a).wf = true) (b : Int) (wb : (Lit.int .i8 b).wf = true) (c : Int) (wc : (Lit.int .i32 c).wf = true) (d : Int) (wd : (Lit.int .i32 d).wf = true) (w : World) :
    Calls Try.prog 3 #[.int .i8 a, .int .i8 b, .int .i32 c, .int .i32 d] w fun e w' => e = .returned (.bool true) ∧ Below w.heap.size w w' := by
  obtain ⟨ha1, ha2⟩ := i8_bd wa
  obtain ⟨hb1, hb2⟩ := i8_bd wb
  obtain ⟨hc1, hc2⟩ := i32_bd wc
  obtain ⟨hd1, hd2⟩ := i32_bd wd
  clear wa wb wc wd
  obtain ⟨hm1, hm2⟩ := mul_bd c d hc1 hc2 hd1 hd2
  obtain ⟨s, hs⟩ : ∃ s, clampZ (a + b) (-128) 127 = s := ⟨_, rfl⟩
  obtain ⟨t, ht⟩ : ∃ t, clampZ (a - b) (-128) 127 = t := ⟨_, rfl⟩
  obtain ⟨u, hu⟩ : ∃ u, clampZ (c + d) (-2147483648) 2147483647 = u := ⟨_, rfl⟩
  obtain ⟨v, hv⟩ : ∃ v, clampZ (c * d) (-2147483648) 2147483647 = v := ⟨_, rfl⟩
  obtain ⟨s1, s2⟩ : -128 ≤ s ∧ s ≤ 127 := hs ▸ clampZ_bd _ _ _ (by omega)
  obtain ⟨t1, t2⟩ : -128 ≤ t ∧ t ≤ 127 := ht ▸ clampZ_bd _ _ _ (by omega)
  obtain ⟨u1, u2⟩ : -2147483648 ≤ u ∧ u ≤ 2147483647 := hu ▸ clampZ_bd _ _ _ (by omega)
  obtain ⟨v1, v2⟩ : -2147483648 ≤ v ∧ v ≤ 2147483647 := hv ▸ clampZ_bd _ _ _ (by omega)
  have HS := Lib.hid hs
  have HT := Lib.hid ht
  have HU := Lib.hid hu
  have HV := Lib.hid hv
  clear hs ht hu hv
  go_enter Try.func3, Try.ntmps3
  go_wp2_with (first
    | (go_at_call 12; refine (add8_to _ _ _ ha1 ha2 hb1 hb2 HS.out _).mono ?_; rintro e w' ⟨rfl, rfl⟩)
    | (go_at_call 14; refine (sub8_to _ _ _ ha1 ha2 hb1 hb2 HT.out _).mono ?_; rintro e w' ⟨rfl, rfl⟩)
    | (go_at_call 15; refine (add32_to _ _ _ hc1 hc2 hd1 hd2 HU.out _).mono ?_; rintro e w' ⟨rfl, rfl⟩)
    | (go_at_call 16; refine (mul32_to _ _ _ hc1 hc2 hd1 hd2 HV.out _).mono ?_; rintro e w' ⟨rfl, rfl⟩)
    | (go_at_call 13; with_reducible refine (held_to (a + b) _ _ _ HS.out _).mono ?_; rintro e w' ⟨rfl, rfl⟩)
    | (go_at_call 13; with_reducible refine (held_to (a - b) _ _ _ HT.out _).mono ?_; rintro e w' ⟨rfl, rfl⟩)
    | (go_at_call 13; with_reducible refine (held_to (c + d) _ _ _ HU.out _).mono ?_; rintro e w' ⟨rfl, rfl⟩)
    | (go_at_call 13; with_reducible refine (held_to (c * d) _ _ _ HV.out _).mono ?_; rintro e w' ⟨rfl, rfl⟩)
    | (go_at_call 17; refine (known _).mono ?_; rintro e w' ⟨rfl, hb⟩))
  go_ret
  exact ⟨rfl, hb⟩
/-! ### the frame: written by program -/
theorem own : ownKnob Try.prog.godebug = none := by kernel_rfl
theorem laid : laidOutB Try.prog = true := by kernel_rfl
theorem contract {H : Type} {enc : TypeId × Value → H} {W : World} {base : Nat} {args : Array Value} {ds gs : List (DataW H)} {before : List MemPlace}
    (hval0 : ∀ (j : Nat) t v, Try.f3.params[j]? = some t → args[j]? = some v → Value.okWide Try.prog W .any base t v)
    (hW : DataW.Whole enc Try.prog Try.f3.params.toList Rows.satNarrowSpec.vars false W args.toList ds gs before) :
    Calls Try.prog 3 args W fun e W' => e = .returned (.bool true) ∧ Below W.heap.size W W' := by
  have hval : ∀ (j : Nat) t v, Try.f3.params[j]? = some t → args[j]? = some v → Value.okWide Try.prog W .any base t v := hval0
  obtain ⟨p, q, hA0, hV, rfl, hfz, hnd⟩ := hW
  have hA : DataW.TrodAll enc Try.prog W 0 (fun _ => true) true Try.f3.params.toList args.toList ds p := hA0
  rw [Try.params3] at hA hval
  obtain ⟨v0, vs0, d0, ds0, p0, q0, hargs, rfl, rfl, h0, r0⟩ := trodAll_cons hA
  obtain ⟨v1, vs1, d1, ds1, p1, q1, rfl, rfl, rfl, h1, r1⟩ := trodAll_cons r0
  obtain ⟨v2, vs2, d2, ds2, p2, q2, rfl, rfl, rfl, h2, r2⟩ := trodAll_cons r1
  obtain ⟨v3, vs3, d3, ds3, p3, q3, rfl, rfl, rfl, h3, r3⟩ := trodAll_cons r2
  obtain ⟨rfl, rfl, rfl⟩ := trodAll_nil r3
  obtain rfl : args = #[v0, v1, v2, v3] := by cases args; simp_all
  clear hA0 hval0
  obtain ⟨a0, rfl, rfl, rfl, w0⟩ := open_int Try.underlying22 (hval 0 22 v0 rfl rfl) h0
  obtain ⟨a1, rfl, rfl, rfl, w1⟩ := open_int Try.underlying22 (hval 1 22 v1 rfl rfl) h1
  obtain ⟨a2, rfl, rfl, rfl, w2⟩ := open_int Try.underlying21 (hval 2 21 v2 rfl rfl) h2
  obtain ⟨a3, rfl, rfl, rfl, w3⟩ := open_int Try.underlying21 (hval 3 21 v3 rfl rfl) h3
  exact walk a0 w0 a1 w1 a2 w2 a3 w3 W
theorem fnIs {H : Type} : ∀ ds : List (DataW H), ds.length = Try.f3.params.toList.length → Rows.satNarrowSpec.fn H ds = { results := [.lit (.bool true)], args := ds } := by
  intro ds h
  rw [Try.params3] at h
  match ds, h with
  | [d1, d2, d3, d4], _ => rfl
set_option maxRecDepth 100000 in
theorem lifted (os : Os) (started : os.Started) (H : Type) (enc : TypeId × Value → H) :
    ReturnsInHanded {} Try.checked os 3 .any (Rows.satNarrowSpec.pre6 enc Try.prog Try.f3 Rows.satNarrowRow.domain false) (Rows.satNarrowSpec.post enc Try.prog Try.f3 false true false false) := by
  refine returnsInHanded_of_change (C := Try.checked) own started (by kernel_rfl) Try.func3
    (ChangeSpec.witness6 (enc := enc) (C := Try.checked) false ⟨#[], #[.int .i8 0, .int .i8 0, .int .i32 0, .int .i32 0], []⟩ 8 (by kernel_rfl) (by kernel_rfl) (by kernel_rfl) (by kernel_rfl)) ?_
  intro W base args ds gs before hval hW _ _
  refine (contract hval hW).mono fun e W' ⟨he, hg⟩ => ?_
  subst he
  exact ⟨_, rfl, Kit.law_post (tb := 4) laid (by kernel_rfl) rfl (by kernel_rfl) Try.underlying4 fnIs hW hg⟩
theorem over : Rows.satNarrowRow.holds Try.pinned (OpenSpec.ofChange Rows.satNarrowSpec) :=
  OpenClaim.holds_of_wide 3 Try.f3 rfl rfl rfl rfl rfl rfl rfl ⟨rfl, rfl, rfl, rfl, rfl⟩ rfl rfl rfl rfl rfl (by kernel_rfl) Try.func3 (by kernel_rfl)
    (of_decide_eq_true (by kernel_rfl)) (by unfold Func.isWrapper; first | (rw [if_pos (by decide +kernel)]; kernel_rfl) | (rw [if_neg (by decide +kernel)]; exact ⟨rfl, rfl⟩))
    (fun os started H enc _ => lifted os started H enc)
/-- the statement. -/
theorem proved : Rows.SatNarrowSaid :=
  over
end Go.Proofs.Ytcpfdinfoldklaa.lawSatNarrow
