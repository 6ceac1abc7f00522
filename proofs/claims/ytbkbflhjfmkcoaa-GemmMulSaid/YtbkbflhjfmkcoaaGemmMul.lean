/- GemmMul: whatever rows are multiplied with whatever rows of weights, or nothing comes of it, the code's answer and the document's are one, and so are their sums of products; the call returns true and leaves its arguments as they were. No condition. -/
import Derived.Test.YtbkbflhjfmkcoaaGemmKnown
namespace Go.Proofs.Ytbkbflhjfmkcoaa.lawGemmMul
open Go Go.ChangeShapes Go.WideShapes Go.ChangeAt Go.RowKit
open Plain CGemm
set_option linter.unusedVariables false

set_option maxHeartbeats 4000000 in
theorem walk_long {w : World} (A B : Option Addr) (n1 n2 c1 c2 : Nat) (r m c : Int) (hl : 600 < n1 ∨ 600 < n2) :
    Calls Try.prog 3 #[.slice A n1 c1, .slice B n2 c2, .int .i64 r, .int .i64 m, .int .i64 c] w fun e w' => e = .returned (.bool true) ∧ Below w.heap.size w w' := by
  rcases (show 600 < n1 ∨ (n1 ≤ 600 ∧ 600 < n2) by omega) with hl | ⟨hl, hl2⟩
  all_goals
    go_enter Try.func3, Try.ntmps3
    go_wp2_with (go_at_call 6; (refine (known12 _).mono ?_); rintro e w' ⟨rfl, hb⟩)
    go_ret
    exact ⟨rfl, hb⟩
set_option maxHeartbeats 4000000 in
theorem walk {w : World} (A : Option Addr) (xs : List Int) (c1 : Nat) (hc1 : xs.length ≤ c1) (hm1 : c1 ≤ maxLen) (hw1 : ∀ n ∈ xs, (Lit.int .i16 n).wf = true) (hr1 : Kit.Rd w w.heap.size A (xs.map (.int .i16)))
    (B : Option Addr) (ys : List Int) (c2 : Nat) (hc2 : ys.length ≤ c2) (hm2 : c2 ≤ maxLen) (hw2 : ∀ n ∈ ys, (Lit.int .i8 n).wf = true) (hr2 : Kit.Rd w w.heap.size B (ys.map (.int .i8)))
    (r : Int) (wr : (Lit.int .i64 r).wf = true) (m : Int) (wm : (Lit.int .i64 m).wf = true) (c : Int) (wc : (Lit.int .i64 c).wf = true) :
    Calls Try.prog 3 #[.slice A xs.length c1, .slice B ys.length c2, .int .i64 r, .int .i64 m, .int .i64 c] w fun e w' => e = .returned (.bool true) ∧ Below w.heap.size w w' := by
  by_cases hl : 600 < xs.length ∨ 600 < ys.length
  · exact walk_long A B _ _ c1 c2 r m c hl
  · obtain ⟨n1, hn1⟩ : ∃ n1, xs.length = n1 := ⟨_, rfl⟩
    obtain ⟨n2, hn2⟩ : ∃ n2, ys.length = n2 := ⟨_, rfl⟩
    rw [hn1, hn2] at hl ⊢
    rw [hn1] at hc1
    rw [hn2] at hc2
    have h6 : n1 ≤ 600 := by omega
    have h6' : n2 ≤ 600 := by omega
    clear hl
    have hxb := i16_wf hw1
    have hyb := i8_wf hw2
    obtain ⟨N, zs, hz, hN, hM, hU⟩ := mul_both A B xs ys n1 n2 c1 c2 r m c hn1 hn2 h6 h6' hc1 hc2 hm1 hm2 hxb hyb
    obtain ⟨b, hb⟩ : ∃ b, min n1 n2 = b := ⟨_, rfl⟩
    obtain ⟨D, hD⟩ : ∃ D, psum (dotF xs ys) b = D := ⟨_, rfl⟩
    obtain ⟨R, hR⟩ : ∃ R, IntKind.i32.wrap D = R := ⟨_, rfl⟩
    have HD1 : Hid (∀ w : World, Kit.Rd w w.heap.size A (xs.map (.int .i16)) → Kit.Rd w w.heap.size B (ys.map (.int .i8)) → Calls Try.prog 10 #[.slice A n1 c1, .slice B n2 c2] w fun e w' => e = .returned (.int .i32 R) ∧ ∃ q, w' = w.drewN q) :=
      Lib.hid (fun w r1 r2 => dot_to A B xs ys n1 n2 c1 c2 b hn1 hn2 hb hc1 hc2 (by omega) hm1 hm2 hxb hyb w r1 r2 R (by rw [hD]; exact hR))
    have HD2 : Hid (∀ w : World, Kit.Rd w w.heap.size A (xs.map (.int .i16)) → Kit.Rd w w.heap.size B (ys.map (.int .i8)) → Calls Try.prog 11 #[.slice A n1 c1, .slice B n2 c2] w fun e w' => e = .returned (.int .i64 D) ∧ ∃ q, w' = w.drewN q) :=
      Lib.hid (fun w r1 r2 => refDot_to A B xs ys n1 n2 c1 c2 b hn1 hn2 hb (by omega) hxb hyb w r1 r2 D hD)
    have HZ := Lib.hid hz
    have HM := Lib.hid hM
    have HU := Lib.hid hU
    have HR1 := Lib.hid hr1
    have HR2 := Lib.hid hr2
    clear hw1 hw2 hz hM hU hr1 hr2 hn1 hn2 wr wm wc hm1 hm2 hc1 hc2 hxb hyb hb hD
    go_enter Try.func3, Try.ntmps3
    go_wp2_with fail
    go_at_call 8
    (refine (HM.out _ HR1.out HR2.out).mono ?_)
    rintro e w1 ⟨v1, rfl, ho1, hb1⟩
    obtain ⟨A1, k1, rfl, -, -, hrd⟩ := Kit.own_rd ho1
    have RA := Lib.hid hrd
    replace HR1 := Lib.hid ((HR1.out.below hb1).more hb1.size)
    replace HR2 := Lib.hid ((HR2.out.below hb1).more hb1.size)
    have HB := Lib.hid hb1
    clear ho1 hb1 hrd HM
    go_wp2_with fail
    go_at_call 9
    (refine (HU.out _ HR1.out HR2.out).mono ?_)
    rintro e w2 ⟨v2, rfl, ho2, hb2⟩
    obtain ⟨A2, k2, rfl, -, -, hrd⟩ := Kit.own_rd ho2
    have RB := Lib.hid hrd
    replace RA := Lib.hid ((RA.out.below hb2).more hb2.size)
    replace HR1 := Lib.hid ((HR1.out.below hb2).more hb2.size)
    replace HR2 := Lib.hid ((HR2.out.below hb2).more hb2.size)
    replace HB := Lib.hid (HB.out.trans (hb2.mono HB.out.size))
    clear ho2 hb2 hrd HU
    go_wp2_with fail
    go_at_call 7
    (refine (quiet_below (fsame32_yes A1 A2 zs N k1 k2 HZ.out hN _ RA.out RB.out)).mono ?_)
    rintro e w3 ⟨rfl, hb3⟩
    replace HB := Lib.hid (HB.out.trans (hb3.mono HB.out.size))
    replace HR1 := Lib.hid ((HR1.out.below hb3).more hb3.size)
    replace HR2 := Lib.hid ((HR2.out.below hb3).more hb3.size)
    clear RA RB hb3
    go_wp2_with fail
    go_at_call 10
    (refine (quiet_below (HD1.out _ HR1.out HR2.out)).mono ?_)
    rintro e w5 ⟨rfl, hb3⟩
    replace HB := Lib.hid (HB.out.trans (hb3.mono HB.out.size))
    replace HR1 := Lib.hid ((HR1.out.below hb3).more hb3.size)
    replace HR2 := Lib.hid ((HR2.out.below hb3).more hb3.size)
    clear HD1 hb3
    go_wp2_with fail
    go_at_call 11
    (refine (quiet_below (HD2.out _ HR1.out HR2.out)).mono ?_)
    rintro e w6 ⟨rfl, hb3⟩
    replace HB := Lib.hid (HB.out.trans (hb3.mono HB.out.size))
    clear HR1 HR2 HD2 hb3
    go_wp2_with fail
    go_at_call 6
    (refine (known12 _).mono ?_)
    rintro e w4 ⟨rfl, hb⟩
    replace HB := Lib.hid (HB.out.trans (hb.mono HB.out.size))
    clear hb
    go_wp2_with fail
    go_ret
    exact ⟨rfl, HB.out⟩
/-! ### the frame: written by program -/
theorem own : ownKnob Try.prog.godebug = none := by kernel_rfl
theorem laid : laidOutB Try.prog = true := by kernel_rfl
theorem contract {H : Type} {enc : TypeId × Value → H} {W : World} {base : Nat} {args : Array Value} {ds gs : List (DataW H)} {before : List MemPlace}
    (hval0 : ∀ (j : Nat) t v, Try.f3.params[j]? = some t → args[j]? = some v → Value.okWide Try.prog W .any base t v)
    (hW : DataW.Whole enc Try.prog Try.f3.params.toList Rows.gemmMulSpec.vars false W args.toList ds gs before) :
    Calls Try.prog 3 args W fun e W' => e = .returned (.bool true) ∧ Below W.heap.size W W' := by
  have hval : ∀ (j : Nat) t v, Try.f3.params[j]? = some t → args[j]? = some v → Value.okWide Try.prog W .any base t v := hval0
  obtain ⟨p, q, hA0, hV, rfl, hfz, hnd⟩ := hW
  have hA : DataW.TrodAll enc Try.prog W 0 (fun _ => true) true Try.f3.params.toList args.toList ds p := hA0
  rw [Try.params3] at hA hval
  obtain ⟨v0, vs0, d0, ds0, p0, q0, hargs, rfl, rfl, h0, r0⟩ := trodAll_cons hA
  obtain ⟨v1, vs1, d1, ds1, p1, q1, rfl, rfl, rfl, h1, r1⟩ := trodAll_cons r0
  obtain ⟨v2, vs2, d2, ds2, p2, q2, rfl, rfl, rfl, h2, r2⟩ := trodAll_cons r1
  obtain ⟨v3, vs3, d3, ds3, p3, q3, rfl, rfl, rfl, h3, r3⟩ := trodAll_cons r2
  obtain ⟨v4, vs4, d4, ds4, p4, q4, rfl, rfl, rfl, h4, r4⟩ := trodAll_cons r3
  obtain ⟨rfl, rfl, rfl⟩ := trodAll_nil r4
  obtain rfl : args = #[v0, v1, v2, v3, v4] := by cases args; simp_all
  clear hA0 hval0
  obtain ⟨A0, z0, c0, rfl, hc0, hm0, hw0, hr0⟩ := Kit.open_islice Try.underlying22 Try.underlying35 (by kernel_rfl) (hval 0 22 v0 rfl rfl) h0
  obtain ⟨A1, z1, c1, rfl, hc1, hm1, hw1, hr1⟩ := Kit.open_islice Try.underlying23 Try.underlying36 (by kernel_rfl) (hval 1 23 v1 rfl rfl) h1
  obtain ⟨a2, rfl, rfl, rfl, w2⟩ := open_int Try.underlying3 (hval 2 3 v2 rfl rfl) h2
  obtain ⟨a3, rfl, rfl, rfl, w3⟩ := open_int Try.underlying3 (hval 3 3 v3 rfl rfl) h3
  obtain ⟨a4, rfl, rfl, rfl, w4⟩ := open_int Try.underlying3 (hval 4 3 v4 rfl rfl) h4
  exact walk (w := W) A0 z0 c0 hc0 hm0 hw0 hr0 A1 z1 c1 hc1 hm1 hw1 hr1 a2 w2 a3 w3 a4 w4
theorem fnIs {H : Type} : ∀ ds : List (DataW H), ds.length = Try.f3.params.toList.length → Rows.gemmMulSpec.fn H ds = { results := [.lit (.bool true)], args := ds } := by
  intro ds h
  rw [Try.params3] at h
  match ds, h with
  | [d1, d2, d3, d4, d5], _ => rfl
set_option maxRecDepth 100000 in
theorem lifted (os : Os) (started : os.Started) (H : Type) (enc : TypeId × Value → H) :
    ReturnsInHanded {} Try.checked os 3 .any (Rows.gemmMulSpec.pre6 enc Try.prog Try.f3 Rows.gemmMulRow.domain false) (Rows.gemmMulSpec.post enc Try.prog Try.f3 false true false false) := by
  refine returnsInHanded_of_change (C := Try.checked) own started (by kernel_rfl) Try.func3
    (ChangeSpec.witness6 (enc := enc) (C := Try.checked) false ⟨#[], #[.slice none 0 0, .slice none 0 0, .int .i64 0, .int .i64 0, .int .i64 0], []⟩ 8 (by kernel_rfl) (by kernel_rfl) (by kernel_rfl) (by kernel_rfl)) ?_
  intro W base args ds gs before hval hW _ _
  refine (contract hval hW).mono fun e W' ⟨he, hg⟩ => ?_
  subst he
  exact ⟨_, rfl, Kit.law_post (tb := 4) laid (by kernel_rfl) rfl (by kernel_rfl) Try.underlying4 fnIs hW hg⟩
theorem over : Rows.gemmMulRow.holds Try.pinned (OpenSpec.ofChange Rows.gemmMulSpec) :=
  OpenClaim.holds_of_wide 3 Try.f3 rfl rfl rfl rfl rfl rfl rfl ⟨rfl, rfl, rfl, rfl, rfl⟩ rfl rfl rfl rfl rfl (by kernel_rfl) Try.func3 (by kernel_rfl)
    (of_decide_eq_true (by kernel_rfl)) (by unfold Func.isWrapper; first | (rw [if_pos (by decide +kernel)]; kernel_rfl) | (rw [if_neg (by decide +kernel)]; exact ⟨rfl, rfl⟩))
    (fun os started H enc _ => lifted os started H enc)
/-- the statement. -/
theorem proved : Rows.GemmMulSaid :=
  over
end Go.Proofs.Ytbkbflhjfmkcoaa.lawGemmMul
