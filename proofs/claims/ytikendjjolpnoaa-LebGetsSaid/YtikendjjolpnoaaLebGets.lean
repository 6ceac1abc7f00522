/- LebGets: the number that any bytes begin with, or why they begin with none, is that of the document; the call returns true and leaves its argument as it was. No condition. -/
import Derived.Test.YtikendjjolpnoaaLebRefTwo
namespace Go.Proofs.Ytikendjjolpnoaa.lawLebGets
open Go Go.ChangeShapes Go.WideShapes Go.ChangeAt Go.RowKit
open LebNum CLeb
set_option linter.unusedVariables false

theorem bytes_of {zs : List Int} (hw : ∀ n ∈ zs, (Lit.int .u8 n).wf = true) : Bytes zs := fun z hz => by
  obtain ⟨h1, h2⟩ := bounds_u8 (hw z hz)
  omega

theorem walk (A : Option Addr) (zs : List Int) (c : Nat) (hc : zs.length ≤ c) (hm : c ≤ maxLen) (hw : ∀ n ∈ zs, (Lit.int .u8 n).wf = true) (w : World) (hr : Kit.Rd w w.heap.size A (zs.map (.int .u8))) :
    Calls Try.prog 7 #[.slice A zs.length c] w fun e w' => e = .returned (.bool true) ∧ Below w.heap.size w w' := by
  unfold maxLen at hm
  have hb := bytes_of hw
  clear hw
  by_cases hl : 100 < zs.length
  · clear hb
    go_enter Try.func7, Try.ntmps7
    go_wp2_with (go_at_call 34; refine (known06 _).mono ?_; rintro e w' ⟨rfl, hb⟩)
    go_ret
    exact ⟨rfl, hb⟩
  · obtain ⟨n, k, e, hR⟩ := getR_any zs
    obtain ⟨b1, b2, b3, b4, b5, b6⟩ := getR_bd hb hR
    have HR := Lib.hid hR
    clear hR
    have hl9 : zs.length ≤ 9223372036854775807 := by omega
    have hv : ∃ v, Got n v e := by
      by_cases he : e = 0
      · exact ⟨_, .inr ⟨he, rfl⟩⟩
      · exact ⟨_, .inl ⟨he, rfl⟩⟩
    obtain ⟨v, hv⟩ := hv
    have HV := Lib.hid hv
    clear b6
    rcases b5 with rfl | rfl | rfl
    · have hu : unfoldZ n = v := by rcases hv with ⟨h, _⟩ | ⟨_, h⟩
                                    · exact absurd rfl h
                                    · exact h.symm
      have HU := Lib.hid hu
      clear hv hu
      go_enter Try.func7, Try.ntmps7
      go_wp2_with (first
        | (go_at_call 35; ((with_reducible refine (get_to A zs c hb _ _ _ HR.out hl9 w hr).mono ?_); rintro r w1 ⟨rfl, rfl⟩))
        | (go_at_call 36; ((with_reducible refine (refGet_to A zs c hb _ _ _ HR.out hl9 w hr).mono ?_); rintro r w1 ⟨rfl, rfl⟩))
        | (go_at_call 37; ((with_reducible refine (getInt_got A zs c hb _ _ _ HR.out v HV.out hl9 w hr).mono ?_); rintro r w1 ⟨rfl, rfl⟩))
        | (go_at_call 38; ((with_reducible refine (unfold_to n v b1 b2 HU.out w).mono ?_); rintro r w1 ⟨rfl, rfl⟩))
        | (go_at_call 34; refine (known06 _).mono ?_; rintro e w' ⟨rfl, hb⟩))
      go_ret
      exact ⟨rfl, hb⟩
    all_goals
      have hv0 : v = 0 := by rcases hv with ⟨_, h⟩ | ⟨h, _⟩
                             · exact h
                             · omega
      subst hv0
      clear hv
      go_enter Try.func7, Try.ntmps7
      go_wp2_with (first
        | (go_at_call 35; ((with_reducible refine (get_to A zs c hb _ _ _ HR.out hl9 w hr).mono ?_); rintro r w1 ⟨rfl, rfl⟩))
        | (go_at_call 36; ((with_reducible refine (refGet_to A zs c hb _ _ _ HR.out hl9 w hr).mono ?_); rintro r w1 ⟨rfl, rfl⟩))
        | (go_at_call 37; ((with_reducible refine (getInt_got A zs c hb _ _ _ HR.out 0 HV.out hl9 w hr).mono ?_); rintro r w1 ⟨rfl, rfl⟩))
        | (go_at_call 34; refine (known06 _).mono ?_; rintro e w' ⟨rfl, hb⟩))
      go_ret
      exact ⟨rfl, hb⟩
/-! ### the frame: written by program -/
theorem own : ownKnob Try.prog.godebug = none := by kernel_rfl
theorem laid : laidOutB Try.prog = true := by kernel_rfl
theorem contract {H : Type} {enc : TypeId × Value → H} {W : World} {base : Nat} {args : Array Value} {ds gs : List (DataW H)} {before : List MemPlace}
    (hval0 : ∀ (j : Nat) t v, Try.f7.params[j]? = some t → args[j]? = some v → Value.okWide Try.prog W .any base t v)
    (hW : DataW.Whole enc Try.prog Try.f7.params.toList Rows.lebGetsSpec.vars false W args.toList ds gs before) :
    Calls Try.prog 7 args W fun e W' => e = .returned (.bool true) ∧ Below W.heap.size W W' := by
  have hval : ∀ (j : Nat) t v, Try.f7.params[j]? = some t → args[j]? = some v → Value.okWide Try.prog W .any base t v := hval0
  obtain ⟨p, q, hA0, hV, rfl, hfz, hnd⟩ := hW
  have hA : DataW.TrodAll enc Try.prog W 0 (fun _ => true) true Try.f7.params.toList args.toList ds p := hA0
  rw [Try.params7] at hA hval
  obtain ⟨v0, vs0, d0, ds0, p0, q0, hargs, rfl, rfl, h0, r0⟩ := trodAll_cons hA
  obtain ⟨rfl, rfl, rfl⟩ := trodAll_nil r0
  obtain rfl : args = #[v0] := by cases args; simp_all
  clear hA0 hval0
  obtain ⟨A0, z0, c0, rfl, hc0, hm0, hw0, hr0⟩ := Kit.open_islice Try.underlying57 Try.underlying5 (by kernel_rfl) (hval 0 57 v0 rfl rfl) h0
  exact walk (w := W) A0 z0 c0 hc0 hm0 hw0 hr0
theorem fnIs {H : Type} : ∀ ds : List (DataW H), ds.length = Try.f7.params.toList.length → Rows.lebGetsSpec.fn H ds = { results := [.lit (.bool true)], args := ds } := by
  intro ds h
  rw [Try.params7] at h
  match ds, h with
  | [d1], _ => rfl
set_option maxRecDepth 100000 in
theorem lifted (os : Os) (started : os.Started) (H : Type) (enc : TypeId × Value → H) :
    ReturnsInHanded {} Try.checked os 7 .any (Rows.lebGetsSpec.pre6 enc Try.prog Try.f7 Rows.lebGetsRow.domain false) (Rows.lebGetsSpec.post enc Try.prog Try.f7 false true false false) := by
  refine returnsInHanded_of_change (C := Try.checked) own started (by kernel_rfl) Try.func7
    (ChangeSpec.witness6 (enc := enc) (C := Try.checked) false ⟨#[], #[.slice none 0 0], []⟩ 8 (by kernel_rfl) (by kernel_rfl) (by kernel_rfl) (by kernel_rfl)) ?_
  intro W base args ds gs before hval hW _ _
  refine (contract hval hW).mono fun e W' ⟨he, hg⟩ => ?_
  subst he
  exact ⟨_, rfl, Kit.law_post (tb := 4) laid (by kernel_rfl) rfl (by kernel_rfl) Try.underlying4 fnIs hW hg⟩
theorem over : Rows.lebGetsRow.holds Try.pinned (OpenSpec.ofChange Rows.lebGetsSpec) :=
  OpenClaim.holds_of_wide 7 Try.f7 rfl rfl rfl rfl rfl rfl rfl ⟨rfl, rfl, rfl, rfl, rfl⟩ rfl rfl rfl rfl rfl (by kernel_rfl) Try.func7 (by kernel_rfl)
    (of_decide_eq_true (by kernel_rfl)) (by unfold Func.isWrapper; first | (rw [if_pos (by decide +kernel)]; kernel_rfl) | (rw [if_neg (by decide +kernel)]; exact ⟨rfl, rfl⟩))
    (fun os started H enc _ => lifted os started H enc)
/-- the statement. -/
theorem proved : Rows.LebGetsSaid :=
  over
end Go.Proofs.Ytikendjjolpnoaa.lawLebGets
