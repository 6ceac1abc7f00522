/- DenseLine: whatever numbers are weighed by whatever weights, or nothing comes of it, the code's line is the document's; the call returns true and leaves its arguments as they were. No condition. -/
import Derived.Test.YtfgjkfabgbhhfaaDenseBoth
namespace Go.Proofs.Ytfgjkfabgbhhfaa.lawDenseLine
open Go Go.ChangeShapes Go.WideShapes Go.ChangeAt Go.RowKit
open Plain CSat CShape CTensor CConv CDense
set_option linter.unusedVariables false

set_option maxHeartbeats 4000000 in
theorem walk_long {w : World} (A WA BA : Option Addr) (n c nW cW nB cB : Nat) (Z : Int) (hl : 300 < n ∨ 2000 < nW ∨ 100 < nB) :
    Calls Try.prog 3 #[.slice A n c, .slice WA nW cW, .slice BA nB cB, .int .i8 Z] w fun e w' => e = .returned (.bool true) ∧ Below w.heap.size w w' := by
  rcases (show 300 < n ∨ (n ≤ 300 ∧ 2000 < nW) ∨ (n ≤ 300 ∧ nW ≤ 2000 ∧ 100 < nB) by omega) with hl | ⟨hl, hl2⟩ | ⟨hl, hl2, hl3⟩
  all_goals
    go_enter Try.func3, Try.ntmps3
    go_wp2_with (go_at_call 6; (refine (known18 _).mono ?_); rintro e w' ⟨rfl, hb⟩)
    go_ret
    exact ⟨rfl, hb⟩
set_option maxHeartbeats 4000000 in
theorem walk {w : World} (A : Option Addr) (zs : List Int) (c : Nat) (hc : zs.length ≤ c) (hm : c ≤ maxLen) (hw : ∀ n ∈ zs, (Lit.int .i8 n).wf = true) (hr : Kit.Rd w w.heap.size A (zs.map (.int .i8)))
    (B : Option Addr) (ws : List Int) (c1 : Nat) (hc1 : ws.length ≤ c1) (hm1 : c1 ≤ maxLen) (hw1 : ∀ n ∈ ws, (Lit.int .i8 n).wf = true) (hr1 : Kit.Rd w w.heap.size B (ws.map (.int .i8)))
    (C : Option Addr) (bs : List Int) (c2 : Nat) (hc2 : bs.length ≤ c2) (hm2 : c2 ≤ maxLen) (hw2 : ∀ n ∈ bs, (Lit.int .i32 n).wf = true) (hr2 : Kit.Rd w w.heap.size C (bs.map (.int .i32)))
    (Z : Int) (wZ : (Lit.int .i8 Z).wf = true) :
    Calls Try.prog 3 #[.slice A zs.length c, .slice B ws.length c1, .slice C bs.length c2, .int .i8 Z] w fun e w' => e = .returned (.bool true) ∧ Below w.heap.size w w' := by
  by_cases hl : 300 < zs.length ∨ 2000 < ws.length ∨ 100 < bs.length
  · exact walk_long A B C _ c _ c1 _ c2 Z hl
  · obtain ⟨n, hn⟩ : ∃ n, zs.length = n := ⟨_, rfl⟩
    obtain ⟨nW, hnW⟩ : ∃ n, ws.length = n := ⟨_, rfl⟩
    obtain ⟨nB, hnB⟩ : ∃ n, bs.length = n := ⟨_, rfl⟩
    rw [hn, hnW, hnB] at hl ⊢
    rw [hnW] at hc1
    have h1 : n ≤ 300 := by omega
    have h2 : nW ≤ 2000 := by omega
    have h3 : nB ≤ 100 := by omega
    have hZ : -128 ≤ Z ∧ Z ≤ 127 := by simpa [Lit.wf, IntKind.min, IntKind.max, IntKind.signed, IntKind.bits] using wZ
    obtain ⟨m, ys, hy, hm6, hM, hU⟩ := line_both A zs n c hn (by omega) (I8b_of hw) B ws nW c1 hnW hc1 (I8b_of hw1) (by omega) C bs nB c2 hnB (I32b_of hw2) (by omega) Z hZ.1 hZ.2
    have HY := Lib.hid hy
    have HM := Lib.hid hM
    have HU := Lib.hid hU
    have HR := Lib.hid (show Kit.Rd w w.heap.size A (I8s zs) from hr)
    have HR1 := Lib.hid (show Kit.Rd w w.heap.size B (I8s ws) from hr1)
    have HR2 := Lib.hid (show Kit.Rd w w.heap.size C (I32v bs) from hr2)
    clear hl hy hM hU hr hr1 hr2 hn hnW hnB hw hw1 hw2 wZ hZ hm hm1 hm2 hc hc1 hc2
    go_enter Try.func3, Try.ntmps3
    go_wp2_with fail
    go_at_call 8
    (refine (HM.out _ HR.out HR1.out HR2.out).mono ?_)
    rintro e w1 ⟨v1, rfl, ho1, hb1⟩
    obtain ⟨A1, k1, rfl, -, -, hrd⟩ := Kit.own_rd ho1
    have RA := Lib.hid hrd
    replace HR := Lib.hid ((HR.out.below hb1).more hb1.size)
    replace HR1 := Lib.hid ((HR1.out.below hb1).more hb1.size)
    replace HR2 := Lib.hid ((HR2.out.below hb1).more hb1.size)
    have HB := Lib.hid hb1
    clear ho1 hb1 hrd HM
    go_wp2_with fail
    go_at_call 9
    (refine (HU.out _ HR.out HR1.out HR2.out).mono ?_)
    rintro e w2 ⟨v2, rfl, ho2, hb2⟩
    obtain ⟨A2, k2, rfl, -, -, hrd⟩ := Kit.own_rd ho2
    have RB := Lib.hid hrd
    replace RA := Lib.hid ((RA.out.below hb2).more hb2.size)
    replace HB := Lib.hid (HB.out.trans (hb2.mono HB.out.size))
    clear ho2 hb2 hrd HU HR HR1 HR2
    go_wp2_with (first
      | (go_at_call 7; (refine (fsame32_yes A1 A2 ys m k1 k2 HY.out.symm hm6 _ RA.out RB.out).mono ?_); rintro e w3 ⟨rfl, q, rfl⟩; (replace HB := Lib.hid (Kit.below_drewN HB.out q)))
      | (go_at_call 6; (refine (known18 _).mono ?_); rintro e w4 ⟨rfl, hb4⟩; (replace HB := Lib.hid (HB.out.trans (hb4.mono HB.out.size)))))
    go_ret
    exact ⟨rfl, HB.out⟩
/-! ### the frame: written by program -/
theorem own : ownKnob Try.prog.godebug = none := by kernel_rfl
theorem laid : laidOutB Try.prog = true := by kernel_rfl
theorem contract {H : Type} {enc : TypeId × Value → H} {W : World} {base : Nat} {args : Array Value} {ds gs : List (DataW H)} {before : List MemPlace}
    (hval0 : ∀ (j : Nat) t v, Try.f3.params[j]? = some t → args[j]? = some v → Value.okWide Try.prog W .any base t v)
    (hW : DataW.Whole enc Try.prog Try.f3.params.toList Rows.denseLineSpec.vars false W args.toList ds gs before) :
    Calls Try.prog 3 args W fun e W' => e = .returned (.bool true) ∧ Below W.heap.size W W' := by
  have hval : ∀ (j : Nat) t v, Try.f3.params[j]? = some t → args[j]? = some v → Value.okWide Try.prog W .any base t v := hval0
  obtain ⟨p, q, hA0, hV, rfl, hfz, hnd⟩ := hW
  have hA : DataW.TrodAll enc Try.prog W 0 (fun _ => true) true Try.f3.params.toList args.toList ds p := hA0
  rw [Try.params3] at hA hval
  obtain ⟨v0, vs0, d0, ds0, p0, q0, hargs, rfl, rfl, h0, r0⟩ := trodAll_cons hA
  obtain ⟨v1, vs1, d1, ds1, p1, q1, rfl, rfl, rfl, h1, r1⟩ := trodAll_cons r0
  obtain ⟨v2, vs2, d2, ds2, p2, q2, rfl, rfl, rfl, h2, r2⟩ := trodAll_cons r1
  obtain ⟨v3, vs3, d3, ds3, p3, q3, rfl, rfl, rfl, h3, r3⟩ := trodAll_cons r2
  obtain ⟨rfl, rfl, rfl⟩ := trodAll_nil r3
  obtain rfl : args = #[v0, v1, v2, v3] := by cases args; simp_all
  clear hA0 hval0
  obtain ⟨A0, z0, c0, rfl, hc0, hm0, hw0, hr0⟩ := Kit.open_islice Try.underlying22 Try.underlying24 (by kernel_rfl) (hval 0 22 v0 rfl rfl) h0
  obtain ⟨A1, z1, c1, rfl, hc1, hm1, hw1, hr1⟩ := Kit.open_islice Try.underlying22 Try.underlying24 (by kernel_rfl) (hval 1 22 v1 rfl rfl) h1
  obtain ⟨A2, z2, c2, rfl, hc2, hm2, hw2, hr2⟩ := Kit.open_islice Try.underlying23 Try.underlying21 (by kernel_rfl) (hval 2 23 v2 rfl rfl) h2
  obtain ⟨a3, rfl, rfl, rfl, w3⟩ := open_int Try.underlying24 (hval 3 24 v3 rfl rfl) h3
  exact walk (w := W) A0 z0 c0 hc0 hm0 hw0 hr0 A1 z1 c1 hc1 hm1 hw1 hr1 A2 z2 c2 hc2 hm2 hw2 hr2 a3 w3
theorem fnIs {H : Type} : ∀ ds : List (DataW H), ds.length = Try.f3.params.toList.length → Rows.denseLineSpec.fn H ds = { results := [.lit (.bool true)], args := ds } := by
  intro ds h
  rw [Try.params3] at h
  match ds, h with
  | [d1, d2, d3, d4], _ => rfl
set_option maxRecDepth 100000 in
theorem lifted (os : Os) (started : os.Started) (H : Type) (enc : TypeId × Value → H) :
    ReturnsInHanded {} Try.checked os 3 .any (Rows.denseLineSpec.pre6 enc Try.prog Try.f3 Rows.denseLineRow.domain false) (Rows.denseLineSpec.post enc Try.prog Try.f3 false true false false) := by
  refine returnsInHanded_of_change (C := Try.checked) own started (by kernel_rfl) Try.func3
    (ChangeSpec.witness6 (enc := enc) (C := Try.checked) false ⟨#[], #[.slice none 0 0, .slice none 0 0, .slice none 0 0, .int .i8 0], []⟩ 8 (by kernel_rfl) (by kernel_rfl) (by kernel_rfl) (by kernel_rfl)) ?_
  intro W base args ds gs before hval hW _ _
  refine (contract hval hW).mono fun e W' ⟨he, hg⟩ => ?_
  subst he
  exact ⟨_, rfl, Kit.law_post (tb := 4) laid (by kernel_rfl) rfl (by kernel_rfl) Try.underlying4 fnIs hW hg⟩
theorem over : Rows.denseLineRow.holds Try.pinned (OpenSpec.ofChange Rows.denseLineSpec) :=
  OpenClaim.holds_of_wide 3 Try.f3 rfl rfl rfl rfl rfl rfl rfl ⟨rfl, rfl, rfl, rfl, rfl⟩ rfl rfl rfl rfl rfl (by kernel_rfl) Try.func3 (by kernel_rfl)
    (of_decide_eq_true (by kernel_rfl)) (by unfold Func.isWrapper; first | (rw [if_pos (by decide +kernel)]; kernel_rfl) | (rw [if_neg (by decide +kernel)]; exact ⟨rfl, rfl⟩))
    (fun os started H enc _ => lifted os started H enc)
/-- the statement. -/
theorem proved : Rows.DenseLineSaid :=
  over
end Go.Proofs.Ytfgjkfabgbhhfaa.lawDenseLine
