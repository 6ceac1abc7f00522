/- SatBack: whatever two numbers of 8 bits: what was added is taken away again, where neither was held; the call returns true and leaves its arguments as they were. No condition. -/
import Derived.Test.YtcpfdinfoldklaaSatKnown
namespace Go.Proofs.Ytcpfdinfoldklaa.lawSatBack
open Go Go.ChangeShapes Go.WideShapes Go.ChangeAt Go.RowKit
open Plain CSat
set_option linter.unusedVariables false

theorem walk (a : Int) (wa : (Lit.int .i8 a).wf = true) (b : Int) (wb : (Lit.int .i8 b).wf = true) (w : World) :
    Calls Try.prog 7 #[.int .i8 a, .int .i8 b] w fun e w' => e = .returned (.bool true) ∧ Below w.heap.size w w' := by
  obtain ⟨ha1, ha2⟩ := i8_bd wa
  obtain ⟨hb1, hb2⟩ := i8_bd wb
  clear wa wb
  by_cases p : 127 ≤ a + b
  · have h : clampZ (a + b) (-128) 127 = 127 := by unfold clampZ; split <;> (try split) <;> omega
    have H := Lib.hid h
    clear h
    go_enter Try.func7, Try.ntmps7
    go_wp2_with (first
      | (go_at_call 12; refine (add8_to _ _ _ ha1 ha2 hb1 hb2 H.out _).mono ?_; rintro e w' ⟨rfl, rfl⟩)
      | (go_at_call 17; refine (known _).mono ?_; rintro e w' ⟨rfl, hb⟩))
    go_ret
    exact ⟨rfl, hb⟩
  · by_cases q : a + b ≤ -128
    · have h : clampZ (a + b) (-128) 127 = -128 := by unfold clampZ; split <;> (try split) <;> omega
      have H := Lib.hid h
      clear h
      go_enter Try.func7, Try.ntmps7
      go_wp2_with (first
        | (go_at_call 12; refine (add8_to _ _ _ ha1 ha2 hb1 hb2 H.out _).mono ?_; rintro e w' ⟨rfl, rfl⟩)
        | (go_at_call 17; refine (known _).mono ?_; rintro e w' ⟨rfl, hb⟩))
      go_ret
      exact ⟨rfl, hb⟩
    · obtain ⟨s, hs⟩ : ∃ s, s = a + b := ⟨_, rfl⟩
      have h : clampZ (a + b) (-128) 127 = s := by unfold clampZ; split <;> (try split) <;> omega
      have h1 : clampZ (s - b) (-128) 127 = a := by unfold clampZ; split <;> (try split) <;> omega
      have h2 : clampZ (s - a) (-128) 127 = b := by unfold clampZ; split <;> (try split) <;> omega
      have t1 : (s == 127) = false := beq_eq_false_iff_ne.2 (by omega)
      have t2 : (s == -128) = false := beq_eq_false_iff_ne.2 (by omega)
      have s1 : -128 ≤ s := by omega
      have s2 : s ≤ 127 := by omega
      have H := Lib.hid h
      have H1 := Lib.hid h1
      have H2 := Lib.hid h2
      clear h h1 h2 hs p q
      go_enter Try.func7, Try.ntmps7
      go_wp2_with (first
        | (go_at_call 12; refine (add8_to _ _ _ ha1 ha2 hb1 hb2 H.out _).mono ?_; rintro e w' ⟨rfl, rfl⟩)
        | (go_at_call 14; with_reducible refine (sub8_to s b a s1 s2 hb1 hb2 H1.out _).mono ?_; rintro e w' ⟨rfl, rfl⟩)
        | (go_at_call 14; with_reducible refine (sub8_to s a b s1 s2 ha1 ha2 H2.out _).mono ?_; rintro e w' ⟨rfl, rfl⟩)
        | (go_at_call 17; refine (known _).mono ?_; rintro e w' ⟨rfl, hb⟩))
      go_ret
      exact ⟨rfl, hb⟩
/-! ### the frame: written by program -/
theorem own : ownKnob Try.prog.godebug = none := by kernel_rfl
theorem laid : laidOutB Try.prog = true := by kernel_rfl
theorem contract {H : Type} {enc : TypeId × Value → H} {W : World} {base : Nat} {args : Array Value} {ds gs : List (DataW H)} {before : List MemPlace}
    (hval0 : ∀ (j : Nat) t v, Try.f7.params[j]? = some t → args[j]? = some v → Value.okWide Try.prog W .any base t v)
    (hW : DataW.Whole enc Try.prog Try.f7.params.toList Rows.satBackSpec.vars false W args.toList ds gs before) :
    Calls Try.prog 7 args W fun e W' => e = .returned (.bool true) ∧ Below W.heap.size W W' := by
  have hval : ∀ (j : Nat) t v, Try.f7.params[j]? = some t → args[j]? = some v → Value.okWide Try.prog W .any base t v := hval0
  obtain ⟨p, q, hA0, hV, rfl, hfz, hnd⟩ := hW
  have hA : DataW.TrodAll enc Try.prog W 0 (fun _ => true) true Try.f7.params.toList args.toList ds p := hA0
  rw [Try.params7] at hA hval
  obtain ⟨v0, vs0, d0, ds0, p0, q0, hargs, rfl, rfl, h0, r0⟩ := trodAll_cons hA
  obtain ⟨v1, vs1, d1, ds1, p1, q1, rfl, rfl, rfl, h1, r1⟩ := trodAll_cons r0
  obtain ⟨rfl, rfl, rfl⟩ := trodAll_nil r1
  obtain rfl : args = #[v0, v1] := by cases args; simp_all
  clear hA0 hval0
  obtain ⟨a0, rfl, rfl, rfl, w0⟩ := open_int Try.underlying22 (hval 0 22 v0 rfl rfl) h0
  obtain ⟨a1, rfl, rfl, rfl, w1⟩ := open_int Try.underlying22 (hval 1 22 v1 rfl rfl) h1
  exact walk a0 w0 a1 w1 W
theorem fnIs {H : Type} : ∀ ds : List (DataW H), ds.length = Try.f7.params.toList.length → Rows.satBackSpec.fn H ds = { results := [.lit (.bool true)], args := ds } := by
  intro ds h
  rw [Try.params7] at h
  match ds, h with
  | [d1, d2], _ => rfl
set_option maxRecDepth 100000 in
theorem lifted (os : Os) (started : os.Started) (H : Type) (enc : TypeId × Value → H) :
    ReturnsInHanded {} Try.checked os 7 .any (Rows.satBackSpec.pre6 enc Try.prog Try.f7 Rows.satBackRow.domain false) (Rows.satBackSpec.post enc Try.prog Try.f7 false true false false) := by
  refine returnsInHanded_of_change (C := Try.checked) own started (by kernel_rfl) Try.func7
    (ChangeSpec.witness6 (enc := enc) (C := Try.checked) false ⟨#[], #[.int .i8 0, .int .i8 0], []⟩ 8 (by kernel_rfl) (by kernel_rfl) (by kernel_rfl) (by kernel_rfl)) ?_
  intro W base args ds gs before hval hW _ _
  refine (contract hval hW).mono fun e W' ⟨he, hg⟩ => ?_
  subst he
  exact ⟨_, rfl, Kit.law_post (tb := 4) laid (by kernel_rfl) rfl (by kernel_rfl) Try.underlying4 fnIs hW hg⟩
theorem over : Rows.satBackRow.holds Try.pinned (OpenSpec.ofChange Rows.satBackSpec) :=
  OpenClaim.holds_of_wide 7 Try.f7 rfl rfl rfl rfl rfl rfl rfl ⟨rfl, rfl, rfl, rfl, rfl⟩ rfl rfl rfl rfl rfl (by kernel_rfl) Try.func7 (by kernel_rfl)
    (of_decide_eq_true (by kernel_rfl)) (by unfold Func.isWrapper; first | (rw [if_pos (by decide +kernel)]; kernel_rfl) | (rw [if_neg (by decide +kernel)]; exact ⟨rfl, rfl⟩))
    (fun os started H enc _ => lifted os started H enc)
/-- the statement. -/
theorem proved : Rows.SatBackSaid :=
  over
end Go.Proofs.Ytcpfdinfoldklaa.lawSatBack
