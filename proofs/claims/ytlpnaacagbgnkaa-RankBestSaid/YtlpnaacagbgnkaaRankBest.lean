/- RankBest: which of any numbers is the greatest, by how much, and at which place any of them stands, is what the document says; the call returns true and leaves its arguments as they were. No condition. -/
import Derived.Test.YtlpnaacagbgnkaaRankLaw
namespace Go.Proofs.Ytlpnaacagbgnkaa.lawRankBest
open Go Go.ChangeShapes Go.WideShapes Go.ChangeAt Go.RowKit
open Plain CRank
set_option linter.unusedVariables false

set_option maxRecDepth 100000 in
set_option maxHeartbeats 4000000 in
theorem walk_no {w : World} (A : Option Addr) (n c : Nat) (i : Int) (hfew : ¬ n ≤ 60) :
    Calls Try.prog 3 #[.slice A n c, .int .i64 i] w fun e w' => e = .returned (.bool true) ∧ Below w.heap.size w w' := by
  have h3 : (n : Int) > 60 := by omega
  go_enter Try.func3, Try.ntmps3
  go_wp2_with (go_at_call 6; (refine (known22 _).mono ?_); rintro e w4 ⟨rfl, hb4⟩)
  go_ret
  exact ⟨rfl, hb4⟩
set_option maxRecDepth 100000 in
set_option maxHeartbeats 8000000 in
theorem walk_yes {w : World} (G : Nat → Int) (hg : I32b G) (A : Option Addr) (n c : Nat) (i : Int) (hf : n ≤ 60) (hr : Kit.Rd w w.heap.size A (I32v (rowL G n))) :
    Calls Try.prog 3 #[.slice A n c, .int .i64 i] w fun e w' => e = .returned (.bool true) ∧ Below w.heap.size w w' := by
  obtain ⟨R, hC1, hC2⟩ := place_both G n hf A c i
  have HC1 := Lib.hid hC1
  have HC2 := Lib.hid hC2
  have HR := Lib.hid hr
  have HG := Lib.hid hg
  have h1 : ¬ (n : Int) > 60 := by omega
  clear hC1 hC2 hr hg
  go_enter Try.func3, Try.ntmps3
  go_wp2_with (first
    | (go_at_call 7
       have hal : Below w.heap.size w w := Below.refl _ _
       refine (same_b (best_to G n hf A c _ rfl _ HR.out)).mono ?_
       rintro e w1 ⟨rfl, hb⟩
       have hh : Below w.heap.size w w1 := hal.trans (hb.mono hal.size)
       replace HR := Lib.hid ((HR.out.below hh).more hh.size)
       have HBW : Hid (Below w.heap.size w w1) := Lib.hid hh
       clear hb hh hal)
    | (go_at_call 8
       have hal : Below w1.heap.size w1 w1 := Below.refl _ _
       refine (quiet_b (refBest_to G n hf A c _ rfl _ HR.out)).mono ?_
       rintro e w2 ⟨rfl, hb⟩
       have hh : Below w1.heap.size w1 w2 := hal.trans (hb.mono hal.size)
       replace HR := Lib.hid ((HR.out.below hh).more hh.size)
       replace HBW := Lib.hid (HBW.out.trans (hh.mono HBW.out.size))
       clear hb hh hal)
    | (go_at_call 9
       have hal : Below w2.heap.size w2 w2 := Below.refl _ _
       refine (quiet_b (margin_to G HG.out n hf A c _ rfl _ HR.out)).mono ?_
       rintro e w3 ⟨rfl, hb⟩
       have hh : Below w2.heap.size w2 w3 := hal.trans (hb.mono hal.size)
       replace HR := Lib.hid ((HR.out.below hh).more hh.size)
       replace HBW := Lib.hid (HBW.out.trans (hh.mono HBW.out.size))
       clear hb hh hal)
    | (go_at_call 10
       have hal : Below w3.heap.size w3 w3 := Below.refl _ _
       refine (quiet_b (refMargin_to G HG.out n hf A c _ rfl _ HR.out)).mono ?_
       rintro e w4 ⟨rfl, hb⟩
       have hh : Below w3.heap.size w3 w4 := hal.trans (hb.mono hal.size)
       replace HR := Lib.hid ((HR.out.below hh).more hh.size)
       replace HBW := Lib.hid (HBW.out.trans (hh.mono HBW.out.size))
       clear hb hh hal)
    | (go_at_call 11
       have hal : Below w4.heap.size w4 w4 := Below.refl _ _
       refine (HC1.out _ HR.out).mono ?_
       rintro e w5 ⟨rfl, hb⟩
       have hh : Below w4.heap.size w4 w5 := hal.trans (hb.mono hal.size)
       replace HR := Lib.hid ((HR.out.below hh).more hh.size)
       replace HBW := Lib.hid (HBW.out.trans (hh.mono HBW.out.size))
       clear hb hh hal)
    | (go_at_call 12
       have hal : Below w5.heap.size w5 w5 := Below.refl _ _
       refine (HC2.out _ HR.out).mono ?_
       rintro e w6 ⟨rfl, hb⟩
       have hh : Below w5.heap.size w5 w6 := hal.trans (hb.mono hal.size)
       replace HR := Lib.hid ((HR.out.below hh).more hh.size)
       replace HBW := Lib.hid (HBW.out.trans (hh.mono HBW.out.size))
       clear hb hh hal)
    | (go_at_call 6
       have hal : Below w6.heap.size w6 w6 := Below.refl _ _
       refine (known22 _).mono ?_
       rintro e w7 ⟨rfl, hb⟩
       have hh : Below w6.heap.size w6 w7 := hal.trans (hb.mono hal.size)
       replace HR := Lib.hid ((HR.out.below hh).more hh.size)
       replace HBW := Lib.hid (HBW.out.trans (hh.mono HBW.out.size))
       clear hb hh hal))
  go_ret
  exact ⟨rfl, HBW.out⟩
theorem walk {w : World} (A : Option Addr) (zs : List Int) (c : Nat) (hc : zs.length ≤ c) (hm : c ≤ maxLen) (hw : ∀ n ∈ zs, (Lit.int .i32 n).wf = true) (hr : Kit.Rd w w.heap.size A (zs.map (.int .i32))) (i : Int) (wi : (Lit.int .i64 i).wf = true) :
    Calls Try.prog 3 #[.slice A zs.length c, .int .i64 i] w fun e w' => e = .returned (.bool true) ∧ Below w.heap.size w w' := by
  by_cases hf : zs.length ≤ 60
  · have hr2 : Kit.Rd w w.heap.size A (I32v (rowL (fun i => zs.getD i 0) zs.length)) := by rw [rowL_self]; exact hr
    exact walk_yes (fun i => zs.getD i 0) (i32b_of hw) A _ c i hf hr2
  · exact walk_no A _ c i hf
/-! ### the frame: written by program -/
theorem own : ownKnob Try.prog.godebug = none := by kernel_rfl
theorem laid : laidOutB Try.prog = true := by kernel_rfl
theorem contract {H : Type} {enc : TypeId × Value → H} {W : World} {base : Nat} {args : Array Value} {ds gs : List (DataW H)} {before : List MemPlace}
    (hval0 : ∀ (j : Nat) t v, Try.f3.params[j]? = some t → args[j]? = some v → Value.okWide Try.prog W .any base t v)
    (hW : DataW.Whole enc Try.prog Try.f3.params.toList Rows.rankBestSpec.vars false W args.toList ds gs before) :
    Calls Try.prog 3 args W fun e W' => e = .returned (.bool true) ∧ Below W.heap.size W W' := by
  have hval : ∀ (j : Nat) t v, Try.f3.params[j]? = some t → args[j]? = some v → Value.okWide Try.prog W .any base t v := hval0
  obtain ⟨p, q, hA0, hV, rfl, hfz, hnd⟩ := hW
  have hA : DataW.TrodAll enc Try.prog W 0 (fun _ => true) true Try.f3.params.toList args.toList ds p := hA0
  rw [Try.params3] at hA hval
  obtain ⟨v0, vs0, d0, ds0, p0, q0, hargs, rfl, rfl, h0, r0⟩ := trodAll_cons hA
  obtain ⟨v1, vs1, d1, ds1, p1, q1, rfl, rfl, rfl, h1, r1⟩ := trodAll_cons r0
  obtain ⟨rfl, rfl, rfl⟩ := trodAll_nil r1
  obtain rfl : args = #[v0, v1] := by cases args; simp_all
  clear hA0 hval0
  obtain ⟨A0, z0, c0, rfl, hc0, hm0, hw0, hr0⟩ := Kit.open_islice Try.underlying22 Try.underlying21 (by kernel_rfl) (hval 0 22 v0 rfl rfl) h0
  obtain ⟨a1, rfl, rfl, rfl, w1⟩ := open_int Try.underlying3 (hval 1 3 v1 rfl rfl) h1
  exact walk (w := W) A0 z0 c0 hc0 hm0 hw0 hr0 a1 w1
theorem fnIs {H : Type} : ∀ ds : List (DataW H), ds.length = Try.f3.params.toList.length → Rows.rankBestSpec.fn H ds = { results := [.lit (.bool true)], args := ds } := by
  intro ds h
  rw [Try.params3] at h
  match ds, h with
  | [d1, d2], _ => rfl
set_option maxRecDepth 100000 in
theorem lifted (os : Os) (started : os.Started) (H : Type) (enc : TypeId × Value → H) :
    ReturnsInHanded {} Try.checked os 3 .any (Rows.rankBestSpec.pre6 enc Try.prog Try.f3 Rows.rankBestRow.domain false) (Rows.rankBestSpec.post enc Try.prog Try.f3 false true false false) := by
  refine returnsInHanded_of_change (C := Try.checked) own started (by kernel_rfl) Try.func3
    (ChangeSpec.witness6 (enc := enc) (C := Try.checked) false ⟨#[], #[.slice none 0 0, .int .i64 0], []⟩ 8 (by kernel_rfl) (by kernel_rfl) (by kernel_rfl) (by kernel_rfl)) ?_
  intro W base args ds gs before hval hW _ _
  refine (contract hval hW).mono fun e W' ⟨he, hg⟩ => ?_
  subst he
  exact ⟨_, rfl, Kit.law_post (tb := 4) laid (by kernel_rfl) rfl (by kernel_rfl) Try.underlying4 fnIs hW hg⟩
theorem over : Rows.rankBestRow.holds Try.pinned (OpenSpec.ofChange Rows.rankBestSpec) :=
  OpenClaim.holds_of_wide 3 Try.f3 rfl rfl rfl rfl rfl rfl rfl ⟨rfl, rfl, rfl, rfl, rfl⟩ rfl rfl rfl rfl rfl (by kernel_rfl) Try.func3 (by kernel_rfl)
    (of_decide_eq_true (by kernel_rfl)) (by unfold Func.isWrapper; first | (rw [if_pos (by decide +kernel)]; kernel_rfl) | (rw [if_neg (by decide +kernel)]; exact ⟨rfl, rfl⟩))
    (fun os started H enc _ => lifted os started H enc)
/-- the statement. -/
theorem proved : Rows.RankBestSaid :=
  over
end Go.Proofs.Ytlpnaacagbgnkaa.lawRankBest
