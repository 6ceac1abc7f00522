/- FixNear: a product that is rounded is at most half a step away, and that of the number below 0 is the same, below 0; the call returns true and leaves its arguments as they were. No condition. -/
import Derived.Test.YtcpfdinfoldklaaFixKnown
namespace Go.Proofs.Ytcpfdinfoldklaa.lawFixNear
open Go Go.ChangeShapes Go.WideShapes Go.ChangeAt Go.RowKit
open Plain CSat CFix
set_option linter.unusedVariables false

theorem walk (a : Int) (wa : (Lit.int .i32 a).wf = true) (m : Int) (wm : (Lit.int .i32 m).wf = true) (sh : Int) (ws : (Lit.int .u8 sh).wf = true) (w : World) :
    Calls Try.prog 11 #[.int .i32 a, .int .i32 m, .int .u8 sh] w fun e w' => e = .returned (.bool true) ∧ Below w.heap.size w w' := by
  obtain ⟨ha1, ha2⟩ := i32_bd wa
  obtain ⟨hm1, hm2⟩ := i32_bd wm
  obtain ⟨hs1, hs2⟩ := u8_bd ws
  clear wa wm ws
  obtain ⟨h1, h2⟩ := mul_bd a m ha1 ha2 hm1 hm2
  obtain ⟨s, hs⟩ : ∃ s : Nat, sh % 63 = (s : Int) := ⟨(sh % 63).toNat, by omega⟩
  have hs3 : s ≤ 62 := by omega
  obtain ⟨p, hp, hp1, hp2, hpi⟩ := pow_bd s hs3
  obtain ⟨v, hv⟩ : ∃ v, roundZ (a * m) s = v := ⟨_, rfl⟩
  have hneg : roundZ (-(a * m)) s = -v := by rw [round_neg, hv]
  have hfar := round_far (a * m) s p hp
  rw [hv] at hfar
  obtain ⟨M, hM⟩ : ∃ M, v * (p : Int) = M := ⟨_, rfl⟩
  rw [hM] at hfar
  have f1 : (a * m - M) * 2 ≤ (p : Int) := by omega
  have f2 : -(a * m - M) * 2 ≤ (p : Int) := by omega
  have hd : M / (p : Int) = v := by rw [← hM, Int.mul_ediv_cancel _ (by omega)]
  have hva := round_abs (a * m) s hs3 (by omega) (by omega)
  rw [hv] at hva
  have v1 : -4611686018427387904 ≤ v := by omega
  have v2 : v ≤ 4611686018427387904 := by omega
  have m1 : -9223372036854775808 ≤ M := by omega
  have m2 : M ≤ 9223372036854775807 := by omega
  have HV := Lib.hid hv
  have HN := Lib.hid hneg
  clear hv hneg hfar hp hva
  by_cases c : a * m - M < 0
  all_goals
    go_enter Try.func11, Try.ntmps11
    go_wp2_with (first
      | (go_at_call 27; refine (scale_to _ _ s v hs3 ha1 ha2 hm1 hm2 HV.out _).mono ?_; rintro e w' ⟨rfl, rfl⟩)
      | (go_at_call 25; refine (round_int _ _ (-v) (by omega) (by omega) (by omega) (by omega) HN.out _).mono ?_; rintro e w' ⟨rfl, rfl⟩)
      | (go_at_call 28; refine (CFix.known _).mono ?_; rintro e w' ⟨rfl, hb⟩))
    all_goals go_outline
    go_ret
    exact ⟨rfl, hb⟩

/-! ### the frame: written by program -/
theorem own : ownKnob Try.prog.godebug = none := by kernel_rfl
theorem laid : laidOutB Try.prog = true := by kernel_rfl
theorem contract {H : Type} {enc : TypeId × Value → H} {W : World} {base : Nat} {args : Array Value} {ds gs : List (DataW H)} {before : List MemPlace}
    (hval0 : ∀ (j : Nat) t v, Try.f11.params[j]? = some t → args[j]? = some v → Value.okWide Try.prog W .any base t v)
    (hW : DataW.Whole enc Try.prog Try.f11.params.toList Rows.fixNearSpec.vars false W args.toList ds gs before) :
    Calls Try.prog 11 args W fun e W' => e = .returned (.bool true) ∧ Below W.heap.size W W' := by
  have hval : ∀ (j : Nat) t v, Try.f11.params[j]? = some t → args[j]? = some v → Value.okWide Try.prog W .any base t v := hval0
  obtain ⟨p, q, hA0, hV, rfl, hfz, hnd⟩ := hW
  have hA : DataW.TrodAll enc Try.prog W 0 (fun _ => true) true Try.f11.params.toList args.toList ds p := hA0
  rw [Try.params11] at hA hval
  obtain ⟨v0, vs0, d0, ds0, p0, q0, hargs, rfl, rfl, h0, r0⟩ := trodAll_cons hA
  obtain ⟨v1, vs1, d1, ds1, p1, q1, rfl, rfl, rfl, h1, r1⟩ := trodAll_cons r0
  obtain ⟨v2, vs2, d2, ds2, p2, q2, rfl, rfl, rfl, h2, r2⟩ := trodAll_cons r1
  obtain ⟨rfl, rfl, rfl⟩ := trodAll_nil r2
  obtain rfl : args = #[v0, v1, v2] := by cases args; simp_all
  clear hA0 hval0
  obtain ⟨a0, rfl, rfl, rfl, w0⟩ := open_int Try.underlying21 (hval 0 21 v0 rfl rfl) h0
  obtain ⟨a1, rfl, rfl, rfl, w1⟩ := open_int Try.underlying21 (hval 1 21 v1 rfl rfl) h1
  obtain ⟨a2, rfl, rfl, rfl, w2⟩ := open_int Try.underlying5 (hval 2 5 v2 rfl rfl) h2
  exact walk (w := W) a0 w0 a1 w1 a2 w2
theorem fnIs {H : Type} : ∀ ds : List (DataW H), ds.length = Try.f11.params.toList.length → Rows.fixNearSpec.fn H ds = { results := [.lit (.bool true)], args := ds } := by
  intro ds h
  rw [Try.params11] at h
  match ds, h with
  | [d1, d2, d3], _ => rfl
set_option maxRecDepth 100000 in
theorem lifted (os : Os) (started : os.Started) (H : Type) (enc : TypeId × Value → H) :
    ReturnsInHanded {} Try.checked os 11 .any (Rows.fixNearSpec.pre6 enc Try.prog Try.f11 Rows.fixNearRow.domain false) (Rows.fixNearSpec.post enc Try.prog Try.f11 false true false false) := by
  refine returnsInHanded_of_change (C := Try.checked) own started (by kernel_rfl) Try.func11
    (ChangeSpec.witness6 (enc := enc) (C := Try.checked) false ⟨#[], #[.int .i32 0, .int .i32 0, .int .u8 0], []⟩ 8 (by kernel_rfl) (by kernel_rfl) (by kernel_rfl) (by kernel_rfl)) ?_
  intro W base args ds gs before hval hW _ _
  refine (contract hval hW).mono fun e W' ⟨he, hg⟩ => ?_
  subst he
  exact ⟨_, rfl, Kit.law_post (tb := 4) laid (by kernel_rfl) rfl (by kernel_rfl) Try.underlying4 fnIs hW hg⟩
theorem over : Rows.fixNearRow.holds Try.pinned (OpenSpec.ofChange Rows.fixNearSpec) :=
  OpenClaim.holds_of_wide 11 Try.f11 rfl rfl rfl rfl rfl rfl rfl ⟨rfl, rfl, rfl, rfl, rfl⟩ rfl rfl rfl rfl rfl (by kernel_rfl) Try.func11 (by kernel_rfl)
    (of_decide_eq_true (by kernel_rfl)) (by unfold Func.isWrapper; first | (rw [if_pos (by decide +kernel)]; kernel_rfl) | (rw [if_neg (by decide +kernel)]; exact ⟨rfl, rfl⟩))
    (fun os started H enc _ => lifted os started H enc)
/-- the statement. -/
theorem proved : Rows.FixNearSaid :=
  over
end Go.Proofs.Ytcpfdinfoldklaa.lawFixNear
