/- GemmTurn: whatever rows become columns, the code's answer and the document's are one; turned twice they are as they were; the call returns true and leaves its arguments as they were. No condition. -/
import Derived.Test.YtbkbflhjfmkcoaaGemmKnown
namespace Go.Proofs.Ytbkbflhjfmkcoaa.lawGemmTurn
open Go Go.ChangeShapes Go.WideShapes Go.ChangeAt Go.RowKit
open Plain CGemm
set_option linter.unusedVariables false

set_option maxHeartbeats 4000000 in
theorem walk {w : World} (A : Option Addr) (xs : List Int) (c1 : Nat) (hc1 : xs.length ≤ c1) (hm1 : c1 ≤ maxLen) (hw1 : ∀ n ∈ xs, (Lit.int .i8 n).wf = true) (hr1 : Kit.Rd w w.heap.size A (xs.map (.int .i8)))
    (r : Int) (wr : (Lit.int .i64 r).wf = true) (c : Int) (wc : (Lit.int .i64 c).wf = true) :
    Calls Try.prog 4 #[.slice A xs.length c1, .int .i64 r, .int .i64 c] w fun e w' => e = .returned (.bool true) ∧ Below w.heap.size w w' := by
  by_cases hl : xs.length > 600
  · go_enter Try.func4, Try.ntmps4
    go_wp2_with (go_at_call 6; (refine (known12 _).mono ?_); rintro e w' ⟨rfl, hb⟩)
    go_ret
    exact ⟨rfl, hb⟩
  · obtain ⟨n1, hn⟩ : ∃ n1, xs.length = n1 := ⟨_, rfl⟩
    rw [hn] at hl ⊢
    obtain ⟨N, zs, hz, hN, hT, hU, hTT⟩ := turn_both A xs n1 c1 r c hn (by omega)
    have HN := Lib.hid hn
    have HZ := Lib.hid hz
    have HT := Lib.hid hT
    have HU := Lib.hid hU
    have HR := Lib.hid hr1
    clear hw1 hz hT hU hr1 hn wr wc hm1 hc1
    rcases hTT with h0 | ⟨h0, hNn, hTT⟩
    · subst h0
      go_enter Try.func4, Try.ntmps4
      go_wp2_with fail
      go_at_call 12
      (refine (HT.out _ HR.out).mono ?_)
      rintro e w1 ⟨v1, rfl, ho1, hb1⟩
      obtain ⟨A1, k1, rfl, -, -, hrd⟩ := Kit.own_rd ho1
      have RA := Lib.hid hrd
      replace HR := Lib.hid ((HR.out.below hb1).more hb1.size)
      have HB := Lib.hid hb1
      clear ho1 hb1 hrd HT
      go_wp2_with fail
      go_at_call 13
      (refine (HU.out _ HR.out).mono ?_)
      rintro e w2 ⟨v2, rfl, ho2, hb2⟩
      obtain ⟨A2, k2, rfl, -, -, hrd⟩ := Kit.own_rd ho2
      have RB := Lib.hid hrd
      replace RA := Lib.hid ((RA.out.below hb2).more hb2.size)
      replace HB := Lib.hid (HB.out.trans (hb2.mono HB.out.size))
      clear ho2 hb2 hrd HU
      go_wp2_with fail
      go_at_call 14
      (refine (quiet_below (fsame8_yes A1 A2 zs 0 k1 k2 HZ.out (by omega) _ RA.out RB.out)).mono ?_)
      rintro e w3 ⟨rfl, hb3⟩
      replace HB := Lib.hid (HB.out.trans (hb3.mono HB.out.size))
      clear RA RB hb3
      go_wp2_with fail
      go_at_call 6
      (refine (known12 _).mono ?_)
      rintro e w4 ⟨rfl, hb⟩
      replace HB := Lib.hid (HB.out.trans (hb.mono HB.out.size))
      clear hb
      go_wp2_with fail
      go_ret
      exact ⟨rfl, HB.out⟩
    · replace hNn := hNn.symm
      subst hNn
      have HTT := Lib.hid hTT
      have hN0 : ¬ n1 = 0 := by omega
      clear hTT
      go_enter Try.func4, Try.ntmps4
      go_wp2_with fail
      go_at_call 12
      (refine (HT.out _ HR.out).mono ?_)
      rintro e w1 ⟨v1, rfl, ho1, hb1⟩
      obtain ⟨A1, k1, rfl, -, -, hrd⟩ := Kit.own_rd ho1
      have RA := Lib.hid hrd
      replace HR := Lib.hid ((HR.out.below hb1).more hb1.size)
      have HB := Lib.hid hb1
      clear ho1 hb1 hrd HT
      go_wp2_with fail
      go_at_call 13
      (refine (HU.out _ HR.out).mono ?_)
      rintro e w2 ⟨v2, rfl, ho2, hb2⟩
      obtain ⟨A2, k2, rfl, -, -, hrd⟩ := Kit.own_rd ho2
      have RB := Lib.hid hrd
      replace RA := Lib.hid ((RA.out.below hb2).more hb2.size)
      replace HR := Lib.hid ((HR.out.below hb2).more hb2.size)
      replace HB := Lib.hid (HB.out.trans (hb2.mono HB.out.size))
      clear ho2 hb2 hrd HU
      go_wp2_with fail
      go_at_call 14
      (refine (quiet_below (fsame8_yes A1 A2 zs n1 k1 k2 HZ.out (by omega) _ RA.out RB.out)).mono ?_)
      rintro e w3 ⟨rfl, hb3⟩
      replace HB := Lib.hid (HB.out.trans (hb3.mono HB.out.size))
      replace RA := Lib.hid ((RA.out.below hb3).more hb3.size)
      replace HR := Lib.hid ((HR.out.below hb3).more hb3.size)
      clear RB hb3
      go_wp2_with fail
      go_at_call 12
      (refine (HTT.out _ A1 k1 RA.out).mono ?_)
      rintro e w5 ⟨v5, rfl, ho5, hb5⟩
      obtain ⟨A5, k5, rfl, -, -, hrd⟩ := Kit.own_rd ho5
      have RC := Lib.hid hrd
      replace HR := Lib.hid ((HR.out.below hb5).more hb5.size)
      replace HB := Lib.hid (HB.out.trans (hb5.mono HB.out.size))
      clear ho5 hb5 hrd HTT RA
      go_wp2_with fail
      go_at_call 14
      (refine (quiet_below (fsame8_yes A5 A xs n1 k5 c1 HN.out (by omega) _ RC.out HR.out)).mono ?_)
      rintro e w3 ⟨rfl, hb3⟩
      replace HB := Lib.hid (HB.out.trans (hb3.mono HB.out.size))
      clear RC HR hb3
      go_wp2_with fail
      go_at_call 6
      (refine (known12 _).mono ?_)
      rintro e w4 ⟨rfl, hb⟩
      replace HB := Lib.hid (HB.out.trans (hb.mono HB.out.size))
      clear hb
      go_wp2_with fail
      go_ret
      exact ⟨rfl, HB.out⟩
/-! ### the frame: written by program -/
theorem own : ownKnob Try.prog.godebug = none := by kernel_rfl
theorem laid : laidOutB Try.prog = true := by kernel_rfl
theorem contract {H : Type} {enc : TypeId × Value → H} {W : World} {base : Nat} {args : Array Value} {ds gs : List (DataW H)} {before : List MemPlace}
    (hval0 : ∀ (j : Nat) t v, Try.f4.params[j]? = some t → args[j]? = some v → Value.okWide Try.prog W .any base t v)
    (hW : DataW.Whole enc Try.prog Try.f4.params.toList Rows.gemmTurnSpec.vars false W args.toList ds gs before) :
    Calls Try.prog 4 args W fun e W' => e = .returned (.bool true) ∧ Below W.heap.size W W' := by
  have hval : ∀ (j : Nat) t v, Try.f4.params[j]? = some t → args[j]? = some v → Value.okWide Try.prog W .any base t v := hval0
  obtain ⟨p, q, hA0, hV, rfl, hfz, hnd⟩ := hW
  have hA : DataW.TrodAll enc Try.prog W 0 (fun _ => true) true Try.f4.params.toList args.toList ds p := hA0
  rw [Try.params4] at hA hval
  obtain ⟨v0, vs0, d0, ds0, p0, q0, hargs, rfl, rfl, h0, r0⟩ := trodAll_cons hA
  obtain ⟨v1, vs1, d1, ds1, p1, q1, rfl, rfl, rfl, h1, r1⟩ := trodAll_cons r0
  obtain ⟨v2, vs2, d2, ds2, p2, q2, rfl, rfl, rfl, h2, r2⟩ := trodAll_cons r1
  obtain ⟨rfl, rfl, rfl⟩ := trodAll_nil r2
  obtain rfl : args = #[v0, v1, v2] := by cases args; simp_all
  clear hA0 hval0
  obtain ⟨A0, z0, c0, rfl, hc0, hm0, hw0, hr0⟩ := Kit.open_islice Try.underlying23 Try.underlying36 (by kernel_rfl) (hval 0 23 v0 rfl rfl) h0
  obtain ⟨a1, rfl, rfl, rfl, w1⟩ := open_int Try.underlying3 (hval 1 3 v1 rfl rfl) h1
  obtain ⟨a2, rfl, rfl, rfl, w2⟩ := open_int Try.underlying3 (hval 2 3 v2 rfl rfl) h2
  exact walk (w := W) A0 z0 c0 hc0 hm0 hw0 hr0 a1 w1 a2 w2
theorem fnIs {H : Type} : ∀ ds : List (DataW H), ds.length = Try.f4.params.toList.length → Rows.gemmTurnSpec.fn H ds = { results := [.lit (.bool true)], args := ds } := by
  intro ds h
  rw [Try.params4] at h
  match ds, h with
  | [d1, d2, d3], _ => rfl
set_option maxRecDepth 100000 in
theorem lifted (os : Os) (started : os.Started) (H : Type) (enc : TypeId × Value → H) :
    ReturnsInHanded {} Try.checked os 4 .any (Rows.gemmTurnSpec.pre6 enc Try.prog Try.f4 Rows.gemmTurnRow.domain false) (Rows.gemmTurnSpec.post enc Try.prog Try.f4 false true false false) := by
  refine returnsInHanded_of_change (C := Try.checked) own started (by kernel_rfl) Try.func4
    (ChangeSpec.witness6 (enc := enc) (C := Try.checked) false ⟨#[], #[.slice none 0 0, .int .i64 0, .int .i64 0], []⟩ 8 (by kernel_rfl) (by kernel_rfl) (by kernel_rfl) (by kernel_rfl)) ?_
  intro W base args ds gs before hval hW _ _
  refine (contract hval hW).mono fun e W' ⟨he, hg⟩ => ?_
  subst he
  exact ⟨_, rfl, Kit.law_post (tb := 4) laid (by kernel_rfl) rfl (by kernel_rfl) Try.underlying4 fnIs hW hg⟩
theorem over : Rows.gemmTurnRow.holds Try.pinned (OpenSpec.ofChange Rows.gemmTurnSpec) :=
  OpenClaim.holds_of_wide 4 Try.f4 rfl rfl rfl rfl rfl rfl rfl ⟨rfl, rfl, rfl, rfl, rfl⟩ rfl rfl rfl rfl rfl (by kernel_rfl) Try.func4 (by kernel_rfl)
    (of_decide_eq_true (by kernel_rfl)) (by unfold Func.isWrapper; first | (rw [if_pos (by decide +kernel)]; kernel_rfl) | (rw [if_neg (by decide +kernel)]; exact ⟨rfl, rfl⟩))
    (fun os started H enc _ => lifted os started H enc)
/-- the statement. -/
theorem proved : Rows.GemmTurnSaid :=
  over
end Go.Proofs.Ytbkbflhjfmkcoaa.lawGemmTurn
