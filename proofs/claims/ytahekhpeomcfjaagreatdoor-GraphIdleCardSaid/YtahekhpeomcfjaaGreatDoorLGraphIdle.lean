/- Layer 27 (graph), GraphIdle: a node that nobody takes changes nothing that goes out; the call returns true and leaves its arguments as they were. The names of the kinds are listed and tied to the program's text; no other condition. -/
import Derived.Test.YtahekhpeomcfjaaGreatDoorTie
import Derived.Test.YtahekhpeomcfjaaGreatDoorCards
import Derived.Test.YtahekhpeomcfjaaGreatDoorGJ52
namespace Go.Proofs.YtahekhpeomcfjaaGreatDoor.CConv
end Go.Proofs.YtahekhpeomcfjaaGreatDoor.CConv
namespace Go.Proofs.YtahekhpeomcfjaaGreatDoor.CFix
end Go.Proofs.YtahekhpeomcfjaaGreatDoor.CFix
namespace Go.Proofs.YtahekhpeomcfjaaGreatDoor.CGraph
end Go.Proofs.YtahekhpeomcfjaaGreatDoor.CGraph
namespace Go.Proofs.YtahekhpeomcfjaaGreatDoor.CKind
end Go.Proofs.YtahekhpeomcfjaaGreatDoor.CKind
namespace Go.Proofs.YtahekhpeomcfjaaGreatDoor.CSat
end Go.Proofs.YtahekhpeomcfjaaGreatDoor.CSat
namespace Go.Proofs.YtahekhpeomcfjaaGreatDoor.CShape
end Go.Proofs.YtahekhpeomcfjaaGreatDoor.CShape
namespace Go.Proofs.YtahekhpeomcfjaaGreatDoor.CTensor
end Go.Proofs.YtahekhpeomcfjaaGreatDoor.CTensor
namespace Go.Proofs.YtahekhpeomcfjaaGreatDoor.lawGraphIdle
set_option maxRecDepth 100000
open Go Go.ChangeShapes Go.WideShapes Go.ChangeAt Go.RowKit Go.Deep
open Plain CSat CFix CShape CTensor CConv CKind CRun CGraph
set_option linter.unusedVariables false
set_option linter.unusedSimpArgs false
theorem lists_of {w : World} {n : Nat} {Y : Nat → Nd} (hO : ∀ j, j < n → NdOk w w.heap.size (Y j)) : ∃ WS BS : Nat → List Int, (∀ j, j < n → NIn (Y j) (WS j) (BS j)) ∧ ListsIn Y WS BS n w := by
  refine ⟨fun j => if h : j < n then Classical.choose (hO j h).ws else [], fun j => if h : j < n then Classical.choose (hO j h).bs else [], fun j hj => ?_, fun j hj => ?_⟩
  · simp only [dif_pos hj]
    obtain ⟨a1, a2, a3, a4, a5⟩ := Classical.choose_spec (hO j hj).ws
    obtain ⟨b1, b2, b3, b4, b5⟩ := Classical.choose_spec (hO j hj).bs
    obtain ⟨g1, g2, g3, g4, g5, g6, g7⟩ := (hO j hj).q
    refine ⟨a1, a2, a3, CAct.i8b_of a4, b1, fun q => ?_, (hO j hj).z.1, (hO j hj).z.2, node_small (hO j hj), g1, g3, g2, g4⟩
    rw [List.getD_eq_getElem?_getD]
    cases hq : (Classical.choose (hO j hj).bs)[q]? with
    | none => simp
    | some a =>
      have hx := b4 a (List.mem_of_getElem? hq)
      have ⟨a1, a2⟩ : -2147483648 ≤ a ∧ a ≤ 2147483647 := by simpa [Lit.wf, IntKind.min, IntKind.max, IntKind.signed, IntKind.bits] using hx
      simpa using ⟨a1, a2⟩
  · simp only [dif_pos hj]
    exact ⟨(Classical.choose_spec (hO j hj).ws).2.2.2.2, (Classical.choose_spec (hO j hj).bs).2.2.2.2⟩
set_option maxHeartbeats 4000000 in
theorem walk_big {w : World} (Y : Nat → Nd) (n c : Nat) (t0 : Tri) (m cm : Nat) (DA : Option Addr) (hm : ¬ m ≤ 300) (A : Option Addr) (hN : NodesAt w w.heap.size A n Y) :
    Calls Tryz.prog 4 #[.slice A n c, .agg #[.int .i64 t0.1, .int .i64 t0.2.1, .int .i64 t0.2.2, .slice DA m cm]] w fun e w' => e = .returned (.bool true) ∧ Below w.heap.size w w' := by
  obtain ⟨q0, q1, q2, q3⟩ := tn_cells t0.1 t0.2.1 t0.2.2 DA m cm w
  have HB0 := Lib.hid ((Below.refl w.heap.size w).alloc (Nat.le_refl _) (.cells #[.int .i64 t0.1, .int .i64 t0.2.1, .int .i64 t0.2.2, .slice DA m cm] 27))
  have HN := Lib.hid hN
  have HM := Lib.hid hm
  clear hN hm
  go_enter Tryz.func4, Tryz.ntmps4
  go_upto_region 1 with fail
  generalize w.alloc (.cells #[.int .i64 t0.1, .int .i64 t0.2.1, .int .i64 t0.2.2, .slice DA m cm] 27) = W0 at q0 q1 q2 q3 HB0 ⊢
  go_wp2_with (first
    | (go_at_call 5
       refine (fewv_to Y n c A _ _ _ DA m cm _ ((HN.out.below HB0.out).more HB0.out.size)).mono ?_
       rintro e w1 ⟨bf, rfl, hfew, hb⟩
       have HB1 := Lib.hid (HB0.out.trans (hb.mono HB0.out.size))
       clear hb
       obtain rfl : bf = false := (by
         cases bf with
         | false => rfl
         | true => exact absurd (hfew rfl).2 HM.out)
       clear hfew)
    | (go_at_call 6
       refine (known27 _).mono ?_
       rintro e w9 ⟨rfl, hb9⟩))
  go_ret
  exact ⟨rfl, HB1.out.trans (hb9.mono HB1.out.size)⟩
theorem walk {w : World} (A : Option Addr) (X : Nat → Nd) (n c : Nat) (hc : n ≤ c) (hm : c ≤ maxLen) (hN : NodesAt w w.heap.size A n X) (hO : ∀ j, j < n → NdOk w w.heap.size (X j)) (H : Int) (wH : (Lit.int .i64 H).wf = true) (W : Int) (wW : (Lit.int .i64 W).wf = true) (C : Int) (wC : (Lit.int .i64 C).wf = true)
    (DA : Option Addr) (zs : List Int) (cm : Nat) (hcm : zs.length ≤ cm) (hmm : cm ≤ maxLen) (hw : ∀ n ∈ zs, (Lit.int .i8 n).wf = true) (hr : Kit.Rd w w.heap.size DA (zs.map (.int .i8))) (hT : NamesIn w) :
    Calls Tryz.prog 4 #[.slice A n c, .agg #[.int .i64 H, .int .i64 W, .int .i64 C, .slice DA zs.length cm]] w fun e w' => e = .returned (.bool true) ∧ Below w.heap.size w w' := by
  by_cases h3 : zs.length ≤ 300
  · obtain ⟨WS, BS, h1, h2⟩ := lists_of hO
    exact idle_walk X WS BS n c (H, W, C) zs zs.length cm DA rfl (by omega) hcm (CAct.i8b_of hw) A w h1 ⟨hT, hN, h2⟩ hr
  · exact walk_big X n c (H, W, C) zs.length cm DA h3 A hN
/-! ### the frame: written by program -/
theorem own : ownKnob Tryz.prog.godebug = none := by kernel_rfl
theorem laid : laidOutB Tryz.prog = true := by kernel_rfl
theorem contract {H : Type} {enc : TypeId × Value → H} {W : World} {base : Nat} {args : Array Value} {ds gs : List (DataW H)} {before : List MemPlace}
    (hval0 : ∀ (j : Nat) t v, Tryz.f4.params[j]? = some t → args[j]? = some v → Value.okWide Tryz.prog W .any base t v)
    (hW : DataW.Whole enc Tryz.prog Tryz.f4.params.toList Rows.graphIdleSpec.vars false W args.toList ds gs before)
    (hL : laidMetH Tryz.prog [("stepwell/kinds.names", Rows.laid_stepwell_kinds_names)] W) :
    Calls Tryz.prog 4 args W fun e W' => e = .returned (.bool true) ∧ Below W.heap.size W W' := by
  have hval : ∀ (j : Nat) t v, Tryz.f4.params[j]? = some t → args[j]? = some v → Value.okWide Tryz.prog W .any base t v := hval0
  obtain ⟨p, q, hA0, hV, rfl, hfz, hnd⟩ := hW
  have hA : DataW.TrodAll enc Tryz.prog W 0 (fun _ => true) true Tryz.f4.params.toList args.toList ds p := hA0
  rw [Tryz.params4] at hA hval
  obtain ⟨v0, vs0, d0, ds0, p0, q0, hargs, rfl, rfl, h0, r0⟩ := trodAll_cons hA
  obtain ⟨v1, vs1, d1, ds1, p1, q1, rfl, rfl, rfl, h1, r1⟩ := trodAll_cons r0
  obtain ⟨rfl, rfl, rfl⟩ := trodAll_nil r1
  obtain rfl : args = #[v0, v1] := by cases args; simp_all
  clear hA0 hval0
  obtain ⟨A0, X0, n0, c0, rfl, hc0, hm0, hN0, hO0⟩ := CGraph.open_nodes (hval 0 22 v0 rfl rfl) h0
  obtain ⟨x1, y1, t1, A1, z1, c1, rfl, wx1, wy1, wt1, hc1, hm1, hw1, hr1⟩ := Kit.open_tensor (s := 24) (d := 25) (e := 39) (i := 3) Tryz.underlying27 Tryz.underlying24 Tryz.underlying25 Tryz.underlying39 Tryz.underlying3 (by kernel_rfl) (by kernel_rfl) (by kernel_rfl) (by kernel_rfl) (by kernel_rfl) ⟨rfl, rfl, rfl, rfl⟩ ⟨rfl, rfl, rfl, rfl, rfl, rfl⟩ (hval 1 27 v1 rfl rfl) h1
  exact walk (w := W) A0 X0 n0 c0 hc0 hm0 hN0 hO0 x1 wx1 y1 wy1 t1 wt1 A1 z1 c1 hc1 hm1 hw1 hr1 (of_laid hL)
theorem fnIs {H : Type} : ∀ ds : List (DataW H), ds.length = Tryz.f4.params.toList.length → Rows.graphIdleSpec.fn H ds = { results := [.lit (.bool true)], args := ds } := by
  intro ds h
  rw [Tryz.params4] at h
  match ds, h with
  | [d1, d2], _ => rfl
theorem door_met (os : Os) (args : Array Value) : laidMetH Tryz.prog [("stepwell/kinds.names", Rows.laid_stepwell_kinds_names)] ((World.doorLaid Tryz.prog 400 os).forCall (fun _ _ => 0) ⟨#[], args, []⟩).memory :=
  laidMetH_of_parts3 (fuel := 8) (laidMet_of_run' 8 (by kernel_rfl) (by kernel_rfl)) (by kernel_rfl) (by kernel_rfl)
set_option maxRecDepth 100000 in
theorem lifted (os : Os) (started : os.Started) (H : Type) (enc : TypeId × Value → H) :
    ReturnsInHanded {} Tryz.checked os 4 .any (fun w args => (Rows.graphIdleSpec.pre enc Tryz.prog Tryz.f4 [] false w args ∧ laidMetH Tryz.prog [("stepwell/kinds.names", Rows.laid_stepwell_kinds_names)] w) ∧ sizedMet enc Tryz.prog Tryz.f4 (OpenSpec.ofChange Rows.graphIdleSpec) false w args) (Rows.graphIdleSpec.post enc Tryz.prog Tryz.f4 false true false false) := by
  refine returnsInHanded_of_change_and (C := Tryz.checked) (X := fun w _ => laidMetH Tryz.prog [("stepwell/kinds.names", Rows.laid_stepwell_kinds_names)] w) (fun _ _ _ hh h => h.of_heap hh) own started (by kernel_rfl) Tryz.func4
    (ChangeSpec.witness_shaped (enc := enc) (C := Tryz.checked) (os := os) (X := fun w _ => laidMetH Tryz.prog [("stepwell/kinds.names", Rows.laid_stepwell_kinds_names)] w) false (World.doorLaid Tryz.prog 400 os) #[.slice none 0 0, .agg #[.int .i64 0, .int .i64 0, .int .i64 0, .slice none 0 0]] 8 rfl (World.shaped_of_RefB (by kernel_rfl) (by kernel_rfl)) (by kernel_rfl) (by kernel_rfl) (by kernel_rfl) (door_met os _)) ?_
  intro W base args ds gs before hval hW _ _ hL _
  refine (contract hval hW hL).mono fun e W' ⟨he, hg⟩ => ?_
  subst he
  exact ⟨_, rfl, Kit.law_post (tb := 4) laid (by kernel_rfl) rfl (by kernel_rfl) Tryz.underlying4 fnIs hW hg⟩
theorem over : Rows.graphIdleRow.holds Tryz.pinned (OpenSpec.ofChange Rows.graphIdleSpec) :=
  OpenClaim.holds_of_wide 4 Tryz.f4 rfl rfl rfl rfl rfl rfl rfl ⟨rfl, rfl, rfl, rfl, rfl⟩ rfl rfl rfl rfl rfl (by kernel_rfl) Tryz.func4 (by kernel_rfl)
    (of_decide_eq_true (by kernel_rfl)) (by unfold Func.isWrapper; first | (rw [if_pos (by decide +kernel)]; kernel_rfl) | (rw [if_neg (by decide +kernel)]; exact ⟨rfl, rfl⟩))
    (fun os started H enc _ => lifted os started H enc)
/-- the statement: the tied card. -/
theorem proved : Rows.GraphIdleCardSaid :=
  Claim7.holds_tied_plain_at .later [] [.data] true (true, "7a6bdaab59d0b1f3f46bd1a5e9cb52ce7eb378cde0d4c71cca0bb2fff51c37eb") false
    over (fun _ h => by cases h) (by kernel_rfl) (fun _ h => by cases h) graphIdle_row_tie rfl ⟨rfl, rfl⟩ (by kernel_rfl) rfl
    (fun f fn hf hfn => by
      obtain rfl : f = 4 := Option.some.inj ((show Tryz.prog.funcNamed "stepwell/stepwelllaw27.GraphIdle" = some 4 by kernel_rfl).symm.trans hf) |>.symm
      obtain rfl : fn = Tryz.f4 := (Option.some.inj (Tryz.func4.symm.trans hfn)).symm
      exact ⟨by kernel_rfl, fun j t ht => by
        rw [Tryz.params4] at ht
        have hm : t ∈ [22, 27] := by simpa using Array.mem_of_getElem? ht
        have hall : ([22, 27].all fun u => !Tryz.prog.wantsStandIn u) = true := by kernel_rfl
        exact (show Tryz.prog.wantsStandIn t = false by simpa using List.all_eq_true.1 hall t hm)⟩)
    (by kernel_rfl)
end Go.Proofs.YtahekhpeomcfjaaGreatDoor.lawGraphIdle
