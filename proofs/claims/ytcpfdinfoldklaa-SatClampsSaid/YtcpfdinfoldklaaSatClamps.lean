/- SatClamps: any number is clamped between any two as the document says; what lies between them stays, and nothing comes out of order; the call returns true and leaves its arguments as they were. No condition. -/
import Derived.Test.YtcpfdinfoldklaaSatKnown
namespace Go.Proofs.Ytcpfdinfoldklaa.lawSatClamps
open Go Go.ChangeShapes Go.WideShapes Go.ChangeAt Go.RowKit
open Plain CSat
set_option linter.unusedVariables false

theorem clamp_to (v lo hi r : Int) (hl1 : -128 ≤ lo) (hl2 : lo ≤ 127) (hh1 : -128 ≤ hi) (hh2 : hi ≤ 127) (h : clampZ v lo hi = r) (w : World) :
    Calls Try.prog 18 #[.int .i64 v, .int .i8 lo, .int .i8 hi] w fun e w' => e = .returned (.int .i8 r) ∧ w = w' := h ▸ clamp v lo hi hl1 hl2 hh1 hh2 w
theorem held_to (v lo hi r : Int) (h : clampZ v lo hi = r) (w : World) :
    Calls Try.prog 13 #[.int .i64 v, .int .i64 lo, .int .i64 hi] w fun e w' => e = .returned (.int .i64 r) ∧ w = w' := h ▸ refHeld v lo hi w

theorem walk (v : Int) (wv : (Lit.int .i64 v).wf = true) (u : Int) (wu : (Lit.int .i64 u).wf = true) (lo : Int) (wl : (Lit.int .i8 lo).wf = true) (hi : Int) (wh : (Lit.int .i8 hi).wf = true) (w : World) :
    Calls Try.prog 4 #[.int .i64 v, .int .i64 u, .int .i8 lo, .int .i8 hi] w fun e w' => e = .returned (.bool true) ∧ Below w.heap.size w w' := by
  obtain ⟨hl1, hl2⟩ := i8_bd wl
  obtain ⟨hh1, hh2⟩ := i8_bd wh
  clear wl wh wv wu
  obtain ⟨a, ha⟩ : ∃ a, clampZ v lo hi = a := ⟨_, rfl⟩
  obtain ⟨b, hb⟩ : ∃ b, clampZ u lo hi = b := ⟨_, rfl⟩
  have ka : -128 ≤ a ∧ a ≤ 127 := by subst ha; unfold clampZ; split <;> (try split) <;> omega
  have k1 : lo ≤ hi → lo ≤ a ∧ a ≤ hi := by subst ha; unfold clampZ; split <;> (try split) <;> omega
  have k2 : lo ≤ hi → v ≤ u → a ≤ b := by
    subst ha hb
    unfold clampZ
    intro h1 h2
    by_cases c1 : v < lo <;> by_cases c2 : u < lo <;> by_cases c3 : v > hi <;> by_cases c4 : u > hi <;> simp [c1, c2, c3, c4] <;> omega
  obtain ⟨ka1, ka2⟩ := ka
  have HA := Lib.hid ha
  have HB := Lib.hid hb
  clear ha hb
  by_cases c1 : lo > hi
  · clear k1 k2
    go_enter Try.func4, Try.ntmps4
    go_wp2_with (first
      | (go_at_call 18; with_reducible refine (clamp_to v lo hi a hl1 hl2 hh1 hh2 HA.out _).mono ?_; rintro e w' ⟨rfl, rfl⟩)
      | (go_at_call 18; with_reducible refine (clamp_to u lo hi b hl1 hl2 hh1 hh2 HB.out _).mono ?_; rintro e w' ⟨rfl, rfl⟩)
      | (go_at_call 13; refine (held_to _ _ _ _ HA.out _).mono ?_; rintro e w' ⟨rfl, rfl⟩)
      | (go_at_call 17; refine (known _).mono ?_; rintro e w' ⟨rfl, hb⟩))
    go_ret
    exact ⟨rfl, hb⟩
  · obtain ⟨k3, k4⟩ := k1 (by omega)
    clear k1
    by_cases c2 : v > u
    · clear k2
      go_enter Try.func4, Try.ntmps4
      go_wp2_with (first
        | (go_at_call 18; with_reducible refine (clamp_to v lo hi a hl1 hl2 hh1 hh2 HA.out _).mono ?_; rintro e w' ⟨rfl, rfl⟩)
        | (go_at_call 18; with_reducible refine (clamp_to u lo hi b hl1 hl2 hh1 hh2 HB.out _).mono ?_; rintro e w' ⟨rfl, rfl⟩)
        | (go_at_call 13; refine (held_to _ _ _ _ HA.out _).mono ?_; rintro e w' ⟨rfl, rfl⟩)
        | (go_at_call 17; refine (known _).mono ?_; rintro e w' ⟨rfl, hb⟩))
      go_ret
      exact ⟨rfl, hb⟩
    · have k5 := k2 (by omega) (by omega)
      clear k2
      go_enter Try.func4, Try.ntmps4
      go_wp2_with (first
        | (go_at_call 18; with_reducible refine (clamp_to v lo hi a hl1 hl2 hh1 hh2 HA.out _).mono ?_; rintro e w' ⟨rfl, rfl⟩)
        | (go_at_call 18; with_reducible refine (clamp_to u lo hi b hl1 hl2 hh1 hh2 HB.out _).mono ?_; rintro e w' ⟨rfl, rfl⟩)
        | (go_at_call 13; refine (held_to _ _ _ _ HA.out _).mono ?_; rintro e w' ⟨rfl, rfl⟩)
        | (go_at_call 17; refine (known _).mono ?_; rintro e w' ⟨rfl, hb⟩))
      go_ret
      exact ⟨rfl, hb⟩
/-! ### the frame: written by program -/
theorem own : ownKnob Try.prog.godebug = none := by kernel_rfl
theorem laid : laidOutB Try.prog = true := by kernel_rfl
theorem contract {H : Type} {enc : TypeId × Value → H} {W : World} {base : Nat} {args : Array Value} {ds gs : List (DataW H)} {before : List MemPlace}
    (hval0 : ∀ (j : Nat) t v, Try.f4.params[j]? = some t → args[j]? = some v → Value.okWide Try.prog W .any base t v)
    (hW : DataW.Whole enc Try.prog Try.f4.params.toList Rows.satClampsSpec.vars false W args.toList ds gs before) :
    Calls Try.prog 4 args W fun e W' => e = .returned (.bool true) ∧ Below W.heap.size W W' := by
  have hval : ∀ (j : Nat) t v, Try.f4.params[j]? = some t → args[j]? = some v → Value.okWide Try.prog W .any base t v := hval0
  obtain ⟨p, q, hA0, hV, rfl, hfz, hnd⟩ := hW
  have hA : DataW.TrodAll enc Try.prog W 0 (fun _ => true) true Try.f4.params.toList args.toList ds p := hA0
  rw [Try.params4] at hA hval
  obtain ⟨v0, vs0, d0, ds0, p0, q0, hargs, rfl, rfl, h0, r0⟩ := trodAll_cons hA
  obtain ⟨v1, vs1, d1, ds1, p1, q1, rfl, rfl, rfl, h1, r1⟩ := trodAll_cons r0
  obtain ⟨v2, vs2, d2, ds2, p2, q2, rfl, rfl, rfl, h2, r2⟩ := trodAll_cons r1
  obtain ⟨v3, vs3, d3, ds3, p3, q3, rfl, rfl, rfl, h3, r3⟩ := trodAll_cons r2
  obtain ⟨rfl, rfl, rfl⟩ := trodAll_nil r3
  obtain rfl : args = #[v0, v1, v2, v3] := by cases args; simp_all
  clear hA0 hval0
  obtain ⟨a0, rfl, rfl, rfl, w0⟩ := open_int Try.underlying2 (hval 0 2 v0 rfl rfl) h0
  obtain ⟨a1, rfl, rfl, rfl, w1⟩ := open_int Try.underlying2 (hval 1 2 v1 rfl rfl) h1
  obtain ⟨a2, rfl, rfl, rfl, w2⟩ := open_int Try.underlying22 (hval 2 22 v2 rfl rfl) h2
  obtain ⟨a3, rfl, rfl, rfl, w3⟩ := open_int Try.underlying22 (hval 3 22 v3 rfl rfl) h3
  exact walk a0 w0 a1 w1 a2 w2 a3 w3 W
theorem fnIs {H : Type} : ∀ ds : List (DataW H), ds.length = Try.f4.params.toList.length → Rows.satClampsSpec.fn H ds = { results := [.lit (.bool true)], args := ds } := by
  intro ds h
  rw [Try.params4] at h
  match ds, h with
  | [d1, d2, d3, d4], _ => rfl
set_option maxRecDepth 100000 in
theorem lifted (os : Os) (started : os.Started) (H : Type) (enc : TypeId × Value → H) :
    ReturnsInHanded {} Try.checked os 4 .any (Rows.satClampsSpec.pre6 enc Try.prog Try.f4 Rows.satClampsRow.domain false) (Rows.satClampsSpec.post enc Try.prog Try.f4 false true false false) := by
  refine returnsInHanded_of_change (C := Try.checked) own started (by kernel_rfl) Try.func4
    (ChangeSpec.witness6 (enc := enc) (C := Try.checked) false ⟨#[], #[.int .i64 0, .int .i64 0, .int .i8 0, .int .i8 0], []⟩ 8 (by kernel_rfl) (by kernel_rfl) (by kernel_rfl) (by kernel_rfl)) ?_
  intro W base args ds gs before hval hW _ _
  refine (contract hval hW).mono fun e W' ⟨he, hg⟩ => ?_
  subst he
  exact ⟨_, rfl, Kit.law_post (tb := 4) laid (by kernel_rfl) rfl (by kernel_rfl) Try.underlying4 fnIs hW hg⟩
theorem over : Rows.satClampsRow.holds Try.pinned (OpenSpec.ofChange Rows.satClampsSpec) :=
  OpenClaim.holds_of_wide 4 Try.f4 rfl rfl rfl rfl rfl rfl rfl ⟨rfl, rfl, rfl, rfl, rfl⟩ rfl rfl rfl rfl rfl (by kernel_rfl) Try.func4 (by kernel_rfl)
    (of_decide_eq_true (by kernel_rfl)) (by unfold Func.isWrapper; first | (rw [if_pos (by decide +kernel)]; kernel_rfl) | (rw [if_neg (by decide +kernel)]; exact ⟨rfl, rfl⟩))
    (fun os started H enc _ => lifted os started H enc)
/-- the statement. -/
theorem proved : Rows.SatClampsSaid :=
  over
end Go.Proofs.Ytcpfdinfoldklaa.lawSatClamps
