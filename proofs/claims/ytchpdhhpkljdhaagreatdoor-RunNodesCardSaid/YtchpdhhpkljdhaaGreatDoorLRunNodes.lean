/- Layer 26 (run): RunNodes: what any node makes of any tensors, or why it cannot, is what the document says; the call returns true and leaves its arguments as they were. The names of the kinds are listed and tied to the program's text; no other condition. -/
import Derived.Test.YtchpdhhpkljdhaaGreatDoorTie
import Derived.Test.YtchpdhhpkljdhaaGreatDoorCards
import Derived.Test.YtchpdhhpkljdhaaGreatDoorGD46
open Go.Value renaming int→Jj
open Go.IntKind renaming i64→Jq
namespace Go.Proofs.YtchpdhhpkljdhaaGreatDoor.CConv
end Go.Proofs.YtchpdhhpkljdhaaGreatDoor.CConv
namespace Go.Proofs.YtchpdhhpkljdhaaGreatDoor.CKind
end Go.Proofs.YtchpdhhpkljdhaaGreatDoor.CKind
namespace Go.Proofs.YtchpdhhpkljdhaaGreatDoor.CRun
end Go.Proofs.YtchpdhhpkljdhaaGreatDoor.CRun
namespace Go.Proofs.YtchpdhhpkljdhaaGreatDoor.CSat
end Go.Proofs.YtchpdhhpkljdhaaGreatDoor.CSat
namespace Go.Proofs.YtchpdhhpkljdhaaGreatDoor.lawRunNodes
set_option maxRecDepth 100000
open Go Go.ChangeShapes Go.WideShapes Go.ChangeAt Go.RowKit Go.Deep
open Plain CSat CFix CShape CTensor CConv CKind CRun
set_option linter.unusedVariables false
set_option linter.unusedSimpArgs false
theorem nin_of {kd na nb Y m1 s1 z1 m2 s2 z2 lo hi : Int} (bd : NdBd kd na nb Y m1 s1 z1 m2 s2 z2 lo hi) {Z : Int} (wz : (Lit.int .i8 Z).wf = true) (K S P O : Int) (WA : Option Addr) (ws : List Int) (cW : Nat) (BA : Option Addr) (bs : List Int) (cB : Nat)
    (hcw : ws.length ≤ cW) (hmw : cW ≤ maxLen) (hww : ∀ n ∈ ws, (Lit.int .i8 n).wf = true) (hwb : ∀ n ∈ bs, (Lit.int .i32 n).wf = true) : NIn ⟨kd, na, nb, K, S, P, O, Z, Y, WA, ws.length, cW, BA, bs.length, cB, m1, s1, z1, m2, s2, z2, lo, hi⟩ ws bs := by
  obtain ⟨_, _, _, b8, b11, _, b13, b14, _, b16, b17, b18⟩ := bd
  have hz : -128 ≤ Z ∧ Z ≤ 127 := by simpa [Lit.wf, IntKind.min, IntKind.max, IntKind.signed, IntKind.bits] using wz
  refine ⟨rfl, hcw, hmw, CAct.i8b_of hww, rfl, fun q => ?_, hz.1, hz.2, ⟨⟨hz.1, hz.2⟩, b8, b17, b18⟩, b11, b13, b14, b16⟩
  rw [List.getD_eq_getElem?_getD]
  cases hq : bs[q]? with
  | none => simp
  | some a =>
    have hx := hwb a (List.mem_of_getElem? hq)
    have ⟨a1, a2⟩ : -2147483648 ≤ a ∧ a ≤ 2147483647 := by simpa [Lit.wf, IntKind.min, IntKind.max, IntKind.signed, IntKind.bits] using hx
    simpa using ⟨a1, a2⟩
theorem walk {w : World} (x0 x1 x2 x8 x11 x12 x13 x14 x15 x16 x17 x18 : Value) (K S P O Z : Int) (WA : Option Addr) (ws : List Int) (cW : Nat) (BA : Option Addr) (bs : List Int) (cB : Nat) (wz : (Lit.int .i8 Z).wf = true) (hcw : ws.length ≤ cW) (hmw : cW ≤ maxLen) (hww : ∀ n ∈ ws, (Lit.int .i8 n).wf = true) (hrw : Kit.Rd w w.heap.size WA (ws.map (.int .i8)))
    (hcb : bs.length ≤ cB) (hmb : cB ≤ maxLen) (hwb : ∀ n ∈ bs, (Lit.int .i32 n).wf = true) (hrb : Kit.Rd w w.heap.size BA (bs.map (.int .i32)))
    (hnd : ∃ kd na nb Y m1 s1 z1 m2 s2 z2 lo hi : Int, (x0 = Jj Jq kd ∧ x1 = Jj Jq na ∧ x2 = Jj Jq nb ∧ x8 = .int .i8 Y ∧ x11 = .int .i32 m1 ∧ x12 = Jj Jq s1 ∧ x13 = .int .i8 z1 ∧ x14 = .int .i32 m2 ∧ x15 = Jj Jq s2 ∧ x16 = .int .i8 z2 ∧ x17 = .int .i8 lo ∧ x18 = .int .i8 hi) ∧ NdBd kd na nb Y m1 s1 z1 m2 s2 z2 lo hi)
    (H : Int) (wH : (Lit.int .i64 H).wf = true) (W : Int) (wW : (Lit.int .i64 W).wf = true) (C : Int) (wC : (Lit.int .i64 C).wf = true) (A : Option Addr) (zs : List Int) (c : Nat) (hca : zs.length ≤ c) (hma : c ≤ maxLen) (hwa : ∀ n ∈ zs, (Lit.int .i8 n).wf = true) (hra : Kit.Rd w w.heap.size A (zs.map (.int .i8)))
    (H2 : Int) (wH2 : (Lit.int .i64 H2).wf = true) (W2 : Int) (wW2 : (Lit.int .i64 W2).wf = true) (C2 : Int) (wC2 : (Lit.int .i64 C2).wf = true) (B : Option Addr) (ys : List Int) (d : Nat) (hcb' : ys.length ≤ d) (hmb' : d ≤ maxLen) (hwb' : ∀ n ∈ ys, (Lit.int .i8 n).wf = true) (hrb' : Kit.Rd w w.heap.size B (ys.map (.int .i8))) (hT : zbv w) :
    Calls Tryz.prog 3 #[.agg #[x0, x1, x2, Jj Jq K, Jj Jq S, Jj Jq P, Jj Jq O, .int .i8 Z, x8, .slice WA ws.length cW, .slice BA bs.length cB, x11, x12, x13, x14, x15, x16, x17, x18], .agg #[Jj Jq H, Jj Jq W, Jj Jq C, .slice A zs.length c], .agg #[Jj Jq H2, Jj Jq W2, Jj Jq C2, .slice B ys.length d]] w fun e w' => e = .returned (.bool true) ∧ Below w.heap.size w w' := by
  obtain ⟨kd, na, nb, Y, m1, s1, z1, m2, s2, z2, lo, hi, ⟨rfl, rfl, rfl, rfl, rfl, rfl, rfl, rfl, rfl, rfl, rfl, rfl⟩, bd⟩ := hnd
  have hN := nin_of bd wz K S P O WA ws cW BA bs cB hcw hmw hww hwb
  have hM : Mem ⟨kd, na, nb, K, S, P, O, Z, Y, WA, ws.length, cW, BA, bs.length, cB, m1, s1, z1, m2, s2, z2, lo, hi⟩ A B zs ys ws bs w := ⟨hra, hrb', hrw, hrb, hT⟩
  by_cases hf : zs.length ≤ 1024 ∧ ws.length ≤ 2000 ∧ bs.length ≤ 200
  · by_cases hm : ys.length ≤ 1024
    · obtain ⟨r, hG, hC, hD⟩ := node_both ⟨kd, na, nb, K, S, P, O, Z, Y, WA, ws.length, cW, BA, bs.length, cB, m1, s1, z1, m2, s2, z2, lo, hi⟩ H W C A zs.length c H2 W2 C2 B ys.length d zs ys rfl (CAct.i8b_of hwa) Zb3 hca rfl (CAct.i8b_of hwb') ws bs hN
      obtain ⟨r5, hG5, hS, hE⟩ := sum_both ⟨kd, na, nb, K, S, P, O, Z, Y, WA, ws.length, cW, BA, bs.length, cB, m1, s1, z1, m2, s2, z2, lo, hi⟩ H W C A zs.length c zs rfl (CAct.i8b_of hwa) B ys ws bs hN
      exact walk_yes ⟨kd, na, nb, K, S, P, O, Z, Y, WA, ws.length, cW, BA, bs.length, cB, m1, s1, z1, m2, s2, z2, lo, hi⟩ H W C A zs.length c H2 W2 C2 B ys.length d hf hm w zs ys ws bs hM r.X r.Y r.U r.m r.xs r.er hG.1 hG.2 r5.X r5.Y r5.U r5.m r5.xs r5.er hG5.1 hG5.2.1 hC hD hS hE
    · exact walk_no2 ⟨kd, na, nb, K, S, P, O, Z, Y, WA, ws.length, cW, BA, bs.length, cB, m1, s1, z1, m2, s2, z2, lo, hi⟩ H W C A zs.length c H2 W2 C2 B ys.length d hf Zb3 (Nat.le_trans hcb' hmb') w hT
  · exact walk_no1 ⟨kd, na, nb, K, S, P, O, Z, Y, WA, ws.length, cW, BA, bs.length, cB, m1, s1, z1, m2, s2, z2, lo, hi⟩ H W C A zs.length c H2 W2 C2 B ys.length d hf w hT
/-! ### the frame: written by program -/
theorem own : ownKnob Tryz.prog.godebug = none := by kernel_rfl
theorem laid : laidOutB Tryz.prog = true := by kernel_rfl
theorem contract {H : Type} {enc : TypeId × Value → H} {W : World} {base : Nat} {args : Array Value} {ds gs : List (DataW H)} {before : List MemPlace}
    (hval0 : ∀ (j : Nat) t v, Tryz.f3.params[j]? = some t → args[j]? = some v → Value.okWide Tryz.prog W .any base t v)
    (hW : DataW.Whole enc Tryz.prog Tryz.f3.params.toList Rows.runNodesSpec.vars false W args.toList ds gs before)
    (hL : laidMetH Tryz.prog [("stepwell/kinds.names", Rows.laid_stepwell_kinds_names)] W) :
    Calls Tryz.prog 3 args W fun e W' => e = .returned (.bool true) ∧ Below W.heap.size W W' := by
  have hval : ∀ (j : Nat) t v, Tryz.f3.params[j]? = some t → args[j]? = some v → Value.okWide Tryz.prog W .any base t v := hval0
  obtain ⟨p, q, hA0, hV, rfl, hfz, hnd⟩ := hW
  have hA : DataW.TrodAll enc Tryz.prog W 0 (fun _ => true) true Tryz.f3.params.toList args.toList ds p := hA0
  rw [Tryz.params3] at hA hval
  obtain ⟨v0, vs0, d0, ds0, p0, q0, hargs, rfl, rfl, h0, r0⟩ := trodAll_cons hA
  obtain ⟨v1, vs1, d1, ds1, p1, q1, rfl, rfl, rfl, h1, r1⟩ := trodAll_cons r0
  obtain ⟨v2, vs2, d2, ds2, p2, q2, rfl, rfl, rfl, h2, r2⟩ := trodAll_cons r1
  obtain ⟨rfl, rfl, rfl⟩ := trodAll_nil r2
  obtain rfl : args = #[v0, v1, v2] := by cases args; simp_all
  clear hA0 hval0
  obtain ⟨n0_0, n0_1, n0_2, n0_8, n0_11, n0_12, n0_13, n0_14, n0_15, n0_16, n0_17, n0_18, K0, S0, Q0, O0, Z0, WA0, ws0, cW0, BA0, bs0, cB0, rfl, wz0, hcw0, hmw0, hww0, hrw0, hcb0, hmb0, hwb0, hrb0⟩ := Kit.open_node (i := 3) (b8 := 22) (d := 23) (e := 22) (d2 := 24) (e2 := 21) Tryz.underlying28 Zb5 Tryz.underlying3 Zb5 Tryz.underlying22 Zb5 Tryz.underlying23 Tryz.underlying22 Zb5 Zb5 Tryz.underlying24 Tryz.underlying21 Zb5 Zb5 rfl rfl rfl rfl rfl rfl rfl ⟨rfl, rfl⟩ ⟨rfl, rfl⟩ ⟨rfl, rfl⟩ ⟨rfl, rfl⟩ ⟨rfl, rfl⟩ ⟨rfl, rfl⟩ ⟨rfl, rfl⟩ (hval 0 28 v0 rfl rfl) h0
  obtain ⟨x1, y1, t1, A1, z1, c1, rfl, wx1, wy1, wt1, hc1, hm1, hw1, hr1⟩ := Kit.open_tensor (s := 30) (d := 23) (e := 22) (i := 3) Tryz.underlying32 Tryz.underlying30 Tryz.underlying23 Tryz.underlying22 Tryz.underlying3 Zb5 Zb5 Zb5 Zb5 Zb5 ⟨rfl, rfl, rfl, rfl⟩ ⟨rfl, rfl, rfl, rfl, rfl, rfl⟩ (hval 1 32 v1 rfl rfl) h1
  obtain ⟨x2, y2, t2, A2, z2, c2, rfl, wx2, wy2, wt2, hc2, hm2, hw2, hr2⟩ := Kit.open_tensor (s := 30) (d := 23) (e := 22) (i := 3) Tryz.underlying32 Tryz.underlying30 Tryz.underlying23 Tryz.underlying22 Tryz.underlying3 Zb5 Zb5 Zb5 Zb5 Zb5 ⟨rfl, rfl, rfl, rfl⟩ ⟨rfl, rfl, rfl, rfl, rfl, rfl⟩ (hval 2 32 v2 rfl rfl) h2
  exact walk (w := W) n0_0 n0_1 n0_2 n0_8 n0_11 n0_12 n0_13 n0_14 n0_15 n0_16 n0_17 n0_18 K0 S0 Q0 O0 Z0 WA0 ws0 cW0 BA0 bs0 cB0 wz0 hcw0 hmw0 hww0 hrw0 hcb0 hmb0 hwb0 hrb0 (CKind.nd_cells (hval 0 28 _ rfl rfl)) x1 wx1 y1 wy1 t1 wt1 A1 z1 c1 hc1 hm1 hw1 hr1 x2 wx2 y2 wy2 t2 wt2 A2 z2 c2 hc2 hm2 hw2 hr2 (of_laid hL)
theorem fnIs {H : Type} : ∀ ds : List (DataW H), ds.length = Tryz.f3.params.toList.length → Rows.runNodesSpec.fn H ds = { results := [.lit (.bool true)], args := ds } := by
  intro ds h
  rw [Tryz.params3] at h
  match ds, h with
  | [d1, d2, d3], _ => rfl
theorem door_met (os : Os) (args : Array Value) : laidMetH Tryz.prog [("stepwell/kinds.names", Rows.laid_stepwell_kinds_names)] ((World.doorLaid Tryz.prog 400 os).forCall (fun _ _ => 0) ⟨#[], args, []⟩).memory :=
  laidMetH_of_parts3 (fuel := 8) (laidMet_of_run' 8 Zb5 Zb5) Zb5 Zb5
set_option maxRecDepth 100000 in
theorem lifted (os : Os) (started : os.Started) (H : Type) (enc : TypeId × Value → H) :
    ReturnsInHanded {} Tryz.checked os 3 .any (fun w args => (Rows.runNodesSpec.pre enc Tryz.prog Tryz.f3 [] false w args ∧ laidMetH Tryz.prog [("stepwell/kinds.names", Rows.laid_stepwell_kinds_names)] w) ∧ sizedMet enc Tryz.prog Tryz.f3 (OpenSpec.ofChange Rows.runNodesSpec) false w args) (Rows.runNodesSpec.post enc Tryz.prog Tryz.f3 false true false false) := by
  refine returnsInHanded_of_change_and (C := Tryz.checked) (X := fun w _ => laidMetH Tryz.prog [("stepwell/kinds.names", Rows.laid_stepwell_kinds_names)] w) (fun _ _ _ hh h => h.of_heap hh) own started Zb5 Tryz.func3
    (ChangeSpec.witness_shaped (enc := enc) (C := Tryz.checked) (os := os) (X := fun w _ => laidMetH Tryz.prog [("stepwell/kinds.names", Rows.laid_stepwell_kinds_names)] w) false (World.doorLaid Tryz.prog 400 os) #[.agg #[Jj Jq 0, Jj Jq 0, Jj Jq 0, Jj Jq 0, Jj Jq 0, Jj Jq 0, Jj Jq 0, .int .i8 0, .int .i8 0, .slice none 0 0, .slice none 0 0, .int .i32 0, Jj Jq 0, .int .i8 0, .int .i32 0, Jj Jq 0, .int .i8 0, .int .i8 0, .int .i8 0], .agg #[Jj Jq 0, Jj Jq 0, Jj Jq 0, .slice none 0 0], .agg #[Jj Jq 0, Jj Jq 0, Jj Jq 0, .slice none 0 0]] 8 rfl (World.shaped_of_RefB Zb5 Zb5) Zb5 Zb5 Zb5 (door_met os _)) ?_
  intro W base args ds gs before hval hW _ _ hL _
  refine (contract hval hW hL).mono fun e W' ⟨he, hg⟩ => ?_
  subst he
  exact ⟨_, rfl, Kit.law_post (tb := 4) laid Zb5 rfl Zb5 Tryz.underlying4 fnIs hW hg⟩
theorem over : Rows.runNodesRow.holds Tryz.pinned (OpenSpec.ofChange Rows.runNodesSpec) :=
  OpenClaim.holds_of_wide 3 Tryz.f3 rfl rfl rfl rfl rfl rfl rfl ⟨rfl, rfl, rfl, rfl, rfl⟩ rfl rfl rfl rfl rfl Zb5 Tryz.func3 Zb5
    (of_decide_eq_true Zb5) (by unfold Func.isWrapper; first | (rw [if_pos (by decide +kernel)]; kernel_rfl) | (rw [if_neg (by decide +kernel)]; exact ⟨rfl, rfl⟩))
    (fun os started H enc _ => lifted os started H enc)
/-- the statement: the tied card. -/
theorem proved : Rows.RunNodesCardSaid :=
  Claim7.holds_tied_plain_at .later [] [.data] true (true, "10f141f8e27fc22e7d8196bd7c016a8b90ec81604d29aace65f3442662fdfda9") false
    over (fun _ h => by cases h) Zb5 (fun _ h => by cases h) runNodes_row_tie rfl ⟨rfl, rfl⟩ Zb5 rfl
    (fun f fn hf hfn => by
      obtain rfl : f = 3 := Option.some.inj ((show Tryz.prog.funcNamed "stepwell/stepwelllaw26.RunNodes" = some 3 by kernel_rfl).symm.trans hf) |>.symm
      obtain rfl : fn = Tryz.f3 := (Option.some.inj (Tryz.func3.symm.trans hfn)).symm
      exact ⟨by kernel_rfl, fun j t ht => by
        rw [Tryz.params3] at ht
        have hm : t ∈ [28, 32, 32] := by simpa using Array.mem_of_getElem? ht
        have hall : ([28, 32, 32].all fun u => !Tryz.prog.wantsStandIn u) = true := by kernel_rfl
        exact (show Tryz.prog.wantsStandIn t = false by simpa using List.all_eq_true.1 hall t hm)⟩)
    Zb5
end Go.Proofs.YtchpdhhpkljdhaaGreatDoor.lawRunNodes
