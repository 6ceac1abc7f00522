/- Layer 25 (kinds), KindsShape: the shape that any node makes of any two, or why it cannot, is that of the document; the call returns true and leaves its arguments as they were. The names of the kinds are listed and tied to the program's text; no other condition. -/
import Derived.Deep.CutRange
import Derived.Test.YtamcdpkakdiggaaDoorTie
import Derived.Test.YtamcdpkakdiggaaDoorCards
import Derived.SevenTiedAt
import Derived.Test.YtamcdpkakdiggaaDoorGK12
namespace Go.Proofs.YtamcdpkakdiggaaDoor.lawKindsShape
open Go Go.ChangeShapes Go.WideShapes Go.ChangeAt Go.RowKit Go.Deep
open Plain CSat CShape CTensor CConv CKind
set_option linter.unusedVariables false
set_option linter.unusedSimpArgs false
theorem walk {w : World} (x0 x1 x2 x8 x11 x12 x13 x14 x15 x16 x17 x18 : Value) (K S P O Z : Int) (WA : Option Addr) (ws : List Int) (cW : Nat) (BA : Option Addr) (bs : List Int) (cB : Nat) (wz : (Lit.int .i8 Z).wf = true) (hcw : ws.length ≤ cW) (hmw : cW ≤ maxLen) (hww : ∀ n ∈ ws, (Lit.int .i8 n).wf = true) (hrw : Kit.Rd w w.heap.size WA (ws.map (.int .i8)))
    (hcb : bs.length ≤ cB) (hmb : cB ≤ maxLen) (hwb : ∀ n ∈ bs, (Lit.int .i32 n).wf = true) (hrb : Kit.Rd w w.heap.size BA (bs.map (.int .i32)))
    (hnd : ∃ kd na nb Y m1 s1 z1 m2 s2 z2 lo hi : Int, (x0 = .int .i64 kd ∧ x1 = .int .i64 na ∧ x2 = .int .i64 nb ∧ x8 = .int .i8 Y ∧ x11 = .int .i32 m1 ∧ x12 = .int .i64 s1 ∧ x13 = .int .i8 z1 ∧ x14 = .int .i32 m2 ∧ x15 = .int .i64 s2 ∧ x16 = .int .i8 z2 ∧ x17 = .int .i8 lo ∧ x18 = .int .i8 hi) ∧ NdBd kd na nb Y m1 s1 z1 m2 s2 z2 lo hi)
    (H : Int) (wH : (Lit.int .i64 H).wf = true) (W : Int) (wW : (Lit.int .i64 W).wf = true) (C : Int) (wC : (Lit.int .i64 C).wf = true) (H2 : Int) (wH2 : (Lit.int .i64 H2).wf = true) (W2 : Int) (wW2 : (Lit.int .i64 W2).wf = true) (C2 : Int) (wC2 : (Lit.int .i64 C2).wf = true) (hT : NamesIn w) :
    Calls Tryd.prog 4 #[.agg #[x0, x1, x2, .int .i64 K, .int .i64 S, .int .i64 P, .int .i64 O, .int .i8 Z, x8, .slice WA ws.length cW, .slice BA bs.length cB, x11, x12, x13, x14, x15, x16, x17, x18], .agg #[.int .i64 H, .int .i64 W, .int .i64 C], .agg #[.int .i64 H2, .int .i64 W2, .int .i64 C2]] w fun e w' => e = .returned (.bool true) ∧ Below w.heap.size w w' := by
  obtain ⟨kd, na, nb, Y, m1, s1, z1, m2, s2, z2, lo, hi, ⟨rfl, rfl, rfl, rfl, rfl, rfl, rfl, rfl, rfl, rfl, rfl, rfl⟩, bd⟩ := hnd
  by_cases hf : ws.length ≤ 2000 ∧ bs.length ≤ 200
  · exact walk_yes ⟨kd, na, nb, K, S, P, O, Z, Y, WA, ws.length, cW, BA, bs.length, cB, m1, s1, z1, m2, s2, z2, lo, hi⟩ H W C H2 W2 C2 hf w hT
  · exact walk_no ⟨kd, na, nb, K, S, P, O, Z, Y, WA, ws.length, cW, BA, bs.length, cB, m1, s1, z1, m2, s2, z2, lo, hi⟩ H W C H2 W2 C2 hf w hT
/-! ### the frame: written by program -/
theorem own : ownKnob Tryd.prog.godebug = none := by kernel_rfl
theorem laid : laidOutB Tryd.prog = true := by kernel_rfl
theorem contract {H : Type} {enc : TypeId × Value → H} {W : World} {base : Nat} {args : Array Value} {ds gs : List (DataW H)} {before : List MemPlace}
    (hval0 : ∀ (j : Nat) t v, Tryd.f4.params[j]? = some t → args[j]? = some v → Value.okWide Tryd.prog W .any base t v)
    (hW : DataW.Whole enc Tryd.prog Tryd.f4.params.toList Rows.kindsShapeSpec.vars false W args.toList ds gs before)
    (hL : laidMetH Tryd.prog [("stepwell/kinds.names", Rows.laid_stepwell_kinds_names)] W) :
    Calls Tryd.prog 4 args W fun e W' => e = .returned (.bool true) ∧ Below W.heap.size W W' := by
  have hval : ∀ (j : Nat) t v, Tryd.f4.params[j]? = some t → args[j]? = some v → Value.okWide Tryd.prog W .any base t v := hval0
  obtain ⟨p, q, hA0, hV, rfl, hfz, hnd⟩ := hW
  have hA : DataW.TrodAll enc Tryd.prog W 0 (fun _ => true) true Tryd.f4.params.toList args.toList ds p := hA0
  rw [Tryd.params4] at hA hval
  obtain ⟨v0, vs0, d0, ds0, p0, q0, hargs, rfl, rfl, h0, r0⟩ := trodAll_cons hA
  obtain ⟨v1, vs1, d1, ds1, p1, q1, rfl, rfl, rfl, h1, r1⟩ := trodAll_cons r0
  obtain ⟨v2, vs2, d2, ds2, p2, q2, rfl, rfl, rfl, h2, r2⟩ := trodAll_cons r1
  obtain ⟨rfl, rfl, rfl⟩ := trodAll_nil r2
  obtain rfl : args = #[v0, v1, v2] := by cases args; simp_all
  clear hA0 hval0
  obtain ⟨n0_0, n0_1, n0_2, n0_8, n0_11, n0_12, n0_13, n0_14, n0_15, n0_16, n0_17, n0_18, K0, S0, Q0, O0, Z0, WA0, ws0, cW0, BA0, bs0, cB0, rfl, wz0, hcw0, hmw0, hww0, hrw0, hcb0, hmb0, hwb0, hrb0⟩ := Kit.open_node (i := 3) (b8 := 22) (d := 23) (e := 22) (d2 := 24) (e2 := 21) Tryd.underlying28 (by kernel_rfl) Tryd.underlying3 (by kernel_rfl) Tryd.underlying22 (by kernel_rfl) Tryd.underlying23 Tryd.underlying22 (by kernel_rfl) (by kernel_rfl) Tryd.underlying24 Tryd.underlying21 (by kernel_rfl) (by kernel_rfl) rfl rfl rfl rfl rfl rfl rfl ⟨rfl, rfl⟩ ⟨rfl, rfl⟩ ⟨rfl, rfl⟩ ⟨rfl, rfl⟩ ⟨rfl, rfl⟩ ⟨rfl, rfl⟩ ⟨rfl, rfl⟩ (hval 0 28 v0 rfl rfl) h0
  obtain ⟨cs1, rfl, hs1, hf1⟩ := Kit.open_flat Tryd.underlying31 (by kernel_rfl) (by kernel_rfl) (hval 1 31 v1 rfl rfl) h1
  obtain ⟨u1_0, u1_1, u1_2, rfl⟩ := Kit.size_3 hs1
  obtain ⟨a1_0, rfl, w1_0⟩ := Kit.flat_int Tryd.underlying3 (v := u1_0) rfl (hf1 0 _ rfl)
  obtain ⟨a1_1, rfl, w1_1⟩ := Kit.flat_int Tryd.underlying3 (v := u1_1) rfl (hf1 1 _ rfl)
  obtain ⟨a1_2, rfl, w1_2⟩ := Kit.flat_int Tryd.underlying3 (v := u1_2) rfl (hf1 2 _ rfl)
  obtain ⟨cs2, rfl, hs2, hf2⟩ := Kit.open_flat Tryd.underlying31 (by kernel_rfl) (by kernel_rfl) (hval 2 31 v2 rfl rfl) h2
  obtain ⟨u2_0, u2_1, u2_2, rfl⟩ := Kit.size_3 hs2
  obtain ⟨a2_0, rfl, w2_0⟩ := Kit.flat_int Tryd.underlying3 (v := u2_0) rfl (hf2 0 _ rfl)
  obtain ⟨a2_1, rfl, w2_1⟩ := Kit.flat_int Tryd.underlying3 (v := u2_1) rfl (hf2 1 _ rfl)
  obtain ⟨a2_2, rfl, w2_2⟩ := Kit.flat_int Tryd.underlying3 (v := u2_2) rfl (hf2 2 _ rfl)
  exact walk (w := W) n0_0 n0_1 n0_2 n0_8 n0_11 n0_12 n0_13 n0_14 n0_15 n0_16 n0_17 n0_18 K0 S0 Q0 O0 Z0 WA0 ws0 cW0 BA0 bs0 cB0 wz0 hcw0 hmw0 hww0 hrw0 hcb0 hmb0 hwb0 hrb0 (CKind.nd_cells (hval 0 28 _ rfl rfl)) a1_0 w1_0 a1_1 w1_1 a1_2 w1_2 a2_0 w2_0 a2_1 w2_1 a2_2 w2_2 (of_laid hL)
theorem fnIs {H : Type} : ∀ ds : List (DataW H), ds.length = Tryd.f4.params.toList.length → Rows.kindsShapeSpec.fn H ds = { results := [.lit (.bool true)], args := ds } := by
  intro ds h
  rw [Tryd.params4] at h
  match ds, h with
  | [d1, d2, d3], _ => rfl
theorem door_met (os : Os) (args : Array Value) : laidMetH Tryd.prog [("stepwell/kinds.names", Rows.laid_stepwell_kinds_names)] ((World.doorLaid Tryd.prog 400 os).forCall (fun _ _ => 0) ⟨#[], args, []⟩).memory :=
  laidMetH_of_parts3 (fuel := 8) (laidMet_of_run' 8 (by kernel_rfl) (by kernel_rfl)) (by kernel_rfl) (by kernel_rfl)
set_option maxRecDepth 100000 in
theorem lifted (os : Os) (started : os.Started) (H : Type) (enc : TypeId × Value → H) :
    ReturnsInHanded {} Tryd.checked os 4 .any (fun w args => (Rows.kindsShapeSpec.pre enc Tryd.prog Tryd.f4 [] false w args ∧ laidMetH Tryd.prog [("stepwell/kinds.names", Rows.laid_stepwell_kinds_names)] w) ∧ sizedMet enc Tryd.prog Tryd.f4 (OpenSpec.ofChange Rows.kindsShapeSpec) false w args) (Rows.kindsShapeSpec.post enc Tryd.prog Tryd.f4 false true false false) := by
  refine returnsInHanded_of_change_and (C := Tryd.checked) (X := fun w _ => laidMetH Tryd.prog [("stepwell/kinds.names", Rows.laid_stepwell_kinds_names)] w) (fun _ _ _ hh h => h.of_heap hh) own started (by kernel_rfl) Tryd.func4
    (ChangeSpec.witness_shaped (enc := enc) (C := Tryd.checked) (os := os) (X := fun w _ => laidMetH Tryd.prog [("stepwell/kinds.names", Rows.laid_stepwell_kinds_names)] w) false (World.doorLaid Tryd.prog 400 os) #[.agg #[.int .i64 0, .int .i64 0, .int .i64 0, .int .i64 0, .int .i64 0, .int .i64 0, .int .i64 0, .int .i8 0, .int .i8 0, .slice none 0 0, .slice none 0 0, .int .i32 0, .int .i64 0, .int .i8 0, .int .i32 0, .int .i64 0, .int .i8 0, .int .i8 0, .int .i8 0], .agg #[.int .i64 0, .int .i64 0, .int .i64 0], .agg #[.int .i64 0, .int .i64 0, .int .i64 0]] 8 rfl (World.shaped_of_RefB (by kernel_rfl) (by kernel_rfl)) (by kernel_rfl) (by kernel_rfl) (by kernel_rfl) (door_met os _)) ?_
  intro W base args ds gs before hval hW _ _ hL _
  refine (contract hval hW hL).mono fun e W' ⟨he, hg⟩ => ?_
  subst he
  exact ⟨_, rfl, Kit.law_post (tb := 4) laid (by kernel_rfl) rfl (by kernel_rfl) Tryd.underlying4 fnIs hW hg⟩
theorem over : Rows.kindsShapeRow.holds Tryd.pinned (OpenSpec.ofChange Rows.kindsShapeSpec) :=
  OpenClaim.holds_of_wide 4 Tryd.f4 rfl rfl rfl rfl rfl rfl rfl ⟨rfl, rfl, rfl, rfl, rfl⟩ rfl rfl rfl rfl rfl (by kernel_rfl) Tryd.func4 (by kernel_rfl)
    (of_decide_eq_true (by kernel_rfl)) (by unfold Func.isWrapper; first | (rw [if_pos (by decide +kernel)]; kernel_rfl) | (rw [if_neg (by decide +kernel)]; exact ⟨rfl, rfl⟩))
    (fun os started H enc _ => lifted os started H enc)
/-- the statement: the tied card. -/
theorem proved : Rows.KindsShapeCardSaid :=
  Claim7.holds_tied_plain_at .later [] [.data] true (true, "6ea59d79f7dfe80b287b54a2e29289cfb74ecb0d49c6185e5ed2f468b1126487") false
    over (fun _ h => by cases h) (by kernel_rfl) (fun _ h => by cases h) kindsShape_row_tie rfl ⟨rfl, rfl⟩ (by kernel_rfl) rfl
    (fun f fn hf hfn => by
      obtain rfl : f = 4 := Option.some.inj ((show Tryd.prog.funcNamed "stepwell/stepwelllaw25.KindsShape" = some 4 by kernel_rfl).symm.trans hf) |>.symm
      obtain rfl : fn = Tryd.f4 := (Option.some.inj (Tryd.func4.symm.trans hfn)).symm
      exact ⟨by kernel_rfl, fun j t ht => by
        rw [Tryd.params4] at ht
        have hm : t ∈ [28, 31, 31] := by simpa using Array.mem_of_getElem? ht
        have hall : ([28, 31, 31].all fun u => !Tryd.prog.wantsStandIn u) = true := by kernel_rfl
        exact (show Tryd.prog.wantsStandIn t = false by simpa using List.all_eq_true.1 hall t hm)⟩)
    (by kernel_rfl)
end Go.Proofs.YtamcdpkakdiggaaDoor.lawKindsShape
