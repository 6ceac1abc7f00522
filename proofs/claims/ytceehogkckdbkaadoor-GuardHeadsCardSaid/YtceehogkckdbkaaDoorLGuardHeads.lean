/- Layer 32 (guard), GuardHeads: whether any exit's sums stay within 32 bits is told as the document says, whatever the exit and the ends of the range; the call returns true and leaves its arguments as they were. The names of the kinds are listed as the program's text lays them. Written by gen_guard10.py. -/
import Derived.Test.YtceehogkckdbkaaDoorTie
import Derived.Test.YtceehogkckdbkaaDoorCards
import Derived.Test.YtceehogkckdbkaaDoorGH33
import Derived.Test.YtceehogkckdbkaaDoorGH49
import Derived.Test.YtceehogkckdbkaaDoorGH50
namespace Go.Proofs.YtceehogkckdbkaaDoor.CConv
end Go.Proofs.YtceehogkckdbkaaDoor.CConv
namespace Go.Proofs.YtceehogkckdbkaaDoor.CFix
end Go.Proofs.YtceehogkckdbkaaDoor.CFix
namespace Go.Proofs.YtceehogkckdbkaaDoor.CGraph
end Go.Proofs.YtceehogkckdbkaaDoor.CGraph
namespace Go.Proofs.YtceehogkckdbkaaDoor.CGuard
end Go.Proofs.YtceehogkckdbkaaDoor.CGuard
namespace Go.Proofs.YtceehogkckdbkaaDoor.CJoin
end Go.Proofs.YtceehogkckdbkaaDoor.CJoin
namespace Go.Proofs.YtceehogkckdbkaaDoor.CKind
end Go.Proofs.YtceehogkckdbkaaDoor.CKind
namespace Go.Proofs.YtceehogkckdbkaaDoor.CSat
end Go.Proofs.YtceehogkckdbkaaDoor.CSat
namespace Go.Proofs.YtceehogkckdbkaaDoor.CShape
end Go.Proofs.YtceehogkckdbkaaDoor.CShape
namespace Go.Proofs.YtceehogkckdbkaaDoor.CSpan
end Go.Proofs.YtceehogkckdbkaaDoor.CSpan
namespace Go.Proofs.YtceehogkckdbkaaDoor.CTensor
end Go.Proofs.YtceehogkckdbkaaDoor.CTensor
namespace Go.Proofs.YtceehogkckdbkaaDoor.lawGuardHeads
open Go Go.ChangeShapes Go.WideShapes Go.ChangeAt Go.RowKit Go.Deep
open Plain CSat CFix CShape CTensor CConv CSpan CKind CGraph CJoin CGuard
set_option maxRecDepth 100000
set_option linter.unusedVariables false
set_option linter.unusedSimpArgs false
set_option maxHeartbeats 8000000 in
theorem walk_big (WA BA : Option Addr) (nW cW nB cB : Nat) (D lo hi : Int) (h : 4000 < nW ∨ 100 < nB) (w : World) (hT : zab w) :
    Calls Tryd.prog 4 #[.agg #[.slice WA nW cW, .slice BA nB cB, .int .i32 D], .int .i8 lo, .int .i8 hi] w fun e w' => e = .returned (.bool true) ∧ Below w.heap.size w w' := by
  have HB0 := Lib.hid ((Below.refl w.heap.size w).alloc (Nat.le_refl _) (.cells #[.slice WA nW cW, .slice BA nB cB, .int .i32 D] 53))
  have HH := Lib.hid (headGNew WA BA nW cW nB cB D 53 w)
  have HSZ : Hid (w.heap.size < (w.alloc (.cells #[.slice WA nW cW, .slice BA nB cB, .int .i32 D] 53)).heap.size) := Lib.hid (by simp)
  have HT := Lib.hid hT
  clear hT
  go_enter Tryd.func4, Tryd.ntmps4
  go_upto_region 1 with fail
  generalize w.alloc (.cells #[.slice WA nW cW, .slice BA nB cB, .int .i32 D] 53) = W0 at HB0 HH HSZ ⊢
  obtain ⟨q0, q1, q2⟩ := HH.out
  by_cases h1 : 4000 < nW
  · have g1 : (nW : Int) > 4000 := by omega
    clear h h1
    go_wp2_with (go_at_call 8; (refine (known32 _ (HT.out.grown HB0.out)).mono ?_); rintro e w9 ⟨rfl, hb9⟩)
    go_ret
    exact ⟨rfl, HB0.out.trans (hb9.mono HB0.out.size)⟩
  · have g1 : ¬ (nW : Int) > 4000 := by omega
    have g2 : (nB : Int) > 100 := by omega
    clear h h1
    go_wp2_with (go_at_call 8; (refine (known32 _ (HT.out.grown HB0.out)).mono ?_); rintro e w9 ⟨rfl, hb9⟩)
    go_ret
    exact ⟨rfl, HB0.out.trans (hb9.mono HB0.out.size)⟩
set_option maxHeartbeats 8000000 in
theorem walk_ok (WA BA : Option Addr) (nW cW nB cB : Nat) (D lo hi : Int) (h : nW ≤ 4000 ∧ nB ≤ 100) (w : World) (hT : zab w) (z : Int)
    (hC : ∀ wx, Below w.heap.size w wx → Calls Tryd.prog 13 #[.agg #[.slice WA nW cW, .slice BA nB cB, .int .i32 D], .agg #[.int .i8 lo, .int .i8 hi]] wx fun e w' => e = .returned (.int .i64 z) ∧ Below wx.heap.size wx w')
    (hR : ∀ wx, Below w.heap.size w wx → Calls Tryd.prog 14 #[.agg #[.slice WA nW cW, .slice BA nB cB, .int .i32 D], .agg #[.int .i8 lo, .int .i8 hi]] wx fun e w' => e = .returned (.int .i64 z) ∧ Below wx.heap.size wx w') :
    Calls Tryd.prog 4 #[.agg #[.slice WA nW cW, .slice BA nB cB, .int .i32 D], .int .i8 lo, .int .i8 hi] w fun e w' => e = .returned (.bool true) ∧ Below w.heap.size w w' := by
  have CC := Lib.hid hC
  have CR := Lib.hid hR
  have g1 : ¬ (nW : Int) > 4000 := by omega
  have g2 : ¬ (nB : Int) > 100 := by omega
  clear hC hR h
  have HB0 := Lib.hid ((Below.refl w.heap.size w).alloc (Nat.le_refl _) (.cells #[.slice WA nW cW, .slice BA nB cB, .int .i32 D] 53))
  have HH := Lib.hid (headGNew WA BA nW cW nB cB D 53 w)
  have HSZ : Hid (w.heap.size < (w.alloc (.cells #[.slice WA nW cW, .slice BA nB cB, .int .i32 D] 53)).heap.size) := Lib.hid (by simp)
  have HT := Lib.hid hT
  clear hT
  go_enter Tryd.func4, Tryd.ntmps4
  go_upto_region 1 with fail
  generalize w.alloc (.cells #[.slice WA nW cW, .slice BA nB cB, .int .i32 D] 53) = W0 at HB0 HH HSZ ⊢
  obtain ⟨q0, q1, q2⟩ := HH.out
  go_upto_region 3 with fail
  refine wp_region_held_drew (S := fun wx => Below W0.heap.size W0 wx) (by kernel_rfl) (Below.refl _ _).drew (fun hHeld => ?_)
  clear q0 q1 q2
  generalize W0.drew = W1 at hHeld ⊢
  refine Tk.y 0 (v := .agg #[.slice WA nW cW, .slice BA nB cB, .int .i32 D]) rfl ?_ ?_
  · intro wS hSw
    obtain ⟨q0, q1, q2⟩ := HH.out.below HSZ.out hSw
    first | (go_simp; done) | (go_simp; with_reducible rfl)
  try simp only [Tk.put]
  refine Tk.x 1 rfl ?_
  try simp only [Tk.put]
  refine Tk.x 2 rfl ?_
  try simp only [Tk.put]
  refine Tk.x 3 rfl ?_
  try simp only [Tk.put]
  refine Tk.y 5 (v := .agg #[.slice WA nW cW, .slice BA nB cB, .int .i32 D]) rfl ?_ ?_
  · intro wS hSw
    obtain ⟨q0, q1, q2⟩ := HH.out.below HSZ.out hSw
    first | (go_simp; done) | (go_simp; with_reducible rfl)
  try simp only [Tk.put]
  refine Tk.x 6 rfl ?_
  try simp only [Tk.put]
  refine Tk.x 7 rfl ?_
  try simp only [Tk.put]
  refine Tk.x 8 rfl ?_
  try simp only [Tk.put]
  refine Tk.s 4 rfl (fun Kq hK => ?_)
  go_simp
  go_at_call 13
  refine (CC.out _ (HB0.out.trans (hHeld.mono HB0.out.size))).mono ?_
  rintro e W2 ⟨rfl, hb⟩
  have hS2 := hHeld.trans (hb.mono hHeld.size)
  clear hHeld hb
  dsimp only
  refine hK.out _ _ hS2 (fun hHeld => ?_)
  clear hK Kq hS2
  try simp only [Tk.put]
  refine Tk.s 9 rfl (fun Kq hK => ?_)
  go_simp
  go_at_call 14
  refine (CR.out _ (HB0.out.trans (hHeld.mono HB0.out.size))).mono ?_
  rintro e W2 ⟨rfl, hb⟩
  have hS2 := hHeld.trans (hb.mono hHeld.size)
  clear hHeld hb
  dsimp only
  refine hK.out _ _ hS2 (fun hHeld => ?_)
  clear hK Kq hS2
  try simp only [Tk.put]
  refine Tk.y 10 (v := .bool true) rfl ?_ ?_
  · intro wS hSw
    first | (go_simp; done) | (go_simp; with_reducible rfl)
  try simp only [Tk.put]
  refine Tk.x 11 rfl ?_
  try simp only [Tk.put]
  refine Tk.s 12 rfl (fun Kq hK => ?_)
  go_simp
  go_at_call 8
  refine (known32 _ (HT.out.grown (HB0.out.trans (hHeld.mono HB0.out.size)))).mono ?_
  rintro e W2 ⟨rfl, hb⟩
  have hS2 := hHeld.trans (hb.mono hHeld.size)
  clear hHeld hb
  dsimp only
  refine hK.out _ _ hS2 (fun hHeld => ?_)
  clear hK Kq hS2
  try simp only [Tk.put]
  refine Tk.y 13 (v := .bool true) rfl ?_ ?_
  · intro wS hSw
    first | (go_simp; done) | (go_simp; with_reducible rfl)
  try simp only [Tk.put]
  refine Tk.x 14 rfl ?_
  try simp only [Tk.put]
  refine wpAnyH_done (by kernel_rfl) ?_ _
  go_wp2_with fail
  go_ret
  exact ⟨rfl, HB0.out.trans (hHeld.mono HB0.out.size)⟩
theorem walk {w : World} (WA : Option Addr) (ws : List Int) (cW : Nat) (hcw : ws.length ≤ cW) (hmw : cW ≤ maxLen) (hww : ∀ n ∈ ws, (Lit.int .i8 n).wf = true) (hrw : Kit.Rd w w.heap.size WA (ws.map (.int .i8)))
    (BA : Option Addr) (bs : List Int) (cB : Nat) (hcb : bs.length ≤ cB) (hmb : cB ≤ maxLen) (hwb : ∀ n ∈ bs, (Lit.int .i32 n).wf = true) (hrb : Kit.Rd w w.heap.size BA (bs.map (.int .i32))) (D : Int) (wD : (Lit.int .i32 D).wf = true) (lo : Int) (wlo : (Lit.int .i8 lo).wf = true) (hi : Int) (whi : (Lit.int .i8 hi).wf = true) (hT : zab w) :
    Calls Tryd.prog 4 #[.agg #[.slice WA ws.length cW, .slice BA bs.length cB, .int .i32 D], .int .i8 lo, .int .i8 hi] w fun e w' => e = .returned (.bool true) ∧ Below w.heap.size w w' := by
  have hlo : -128 ≤ lo ∧ lo ≤ 127 := by simpa [Lit.wf, IntKind.min, IntKind.max, IntKind.signed, IntKind.bits] using wlo
  have hhi : -128 ≤ hi ∧ hi ≤ 127 := by simpa [Lit.wf, IntKind.min, IntKind.max, IntKind.signed, IntKind.bits] using whi
  by_cases h : ws.length ≤ 4000 ∧ bs.length ≤ 100
  · have h0 : NdOk w w.heap.size ⟨3, 0, 0, 0, 0, 0, 0, 0, 0, WA, ws.length, cW, BA, bs.length, cB, 0, 0, 0, 0, 0, 0, 0, 0⟩ :=
      have z8 : -128 ≤ (0 : Int) ∧ (0 : Int) ≤ 127 := by decide
      have z32 : -2147483648 ≤ (0 : Int) ∧ (0 : Int) ≤ 2147483647 := by decide
      have z64 : -9223372036854775808 ≤ (0 : Int) ∧ (0 : Int) ≤ 9223372036854775807 := by decide
      have t64 : -9223372036854775808 ≤ (3 : Int) ∧ (3 : Int) ≤ 9223372036854775807 := by decide
      ⟨z8, z64, z64, ⟨z64, z64, z64, z64⟩, ⟨z32, z32, z8, z8, z8, z8, z8⟩, ⟨z64, z64, t64⟩, ⟨ws, rfl, hcw, hmw, hww, hrw⟩, ⟨bs, rfl, hcb, hmb, hwb, hrb⟩⟩
    obtain ⟨q, hq⟩ := ndl_of h0
    exact walk_ok WA BA _ cW _ cB D lo hi h w hT _ (fun wx hb => chead_to WA BA _ cW _ cB q.1 q.2 hq.lw hq.lb hq.iw hq.ib hcw hcb (show ws.length ≤ 20000 by omega) (show bs.length ≤ 20000 by omega) lo hi hlo.1 hlo.2 hhi.1 hhi.2 D wx ((hq.rw.below hb).more hb.size) ((hq.rb.below hb).more hb.size))
      (fun wx hb => rhead_to WA BA _ cW _ cB q.1 q.2 hq.lw hq.lb hq.iw hq.ib hcw hcb (show ws.length ≤ 20000 by omega) (show bs.length ≤ 20000 by omega) lo hi hlo.1 hlo.2 hhi.1 hhi.2 D wx ((hq.rw.below hb).more hb.size) ((hq.rb.below hb).more hb.size))
  · exact walk_big WA BA _ cW _ cB D lo hi (by omega) w hT
/-! ### the frame: written by program -/
theorem own : ownKnob Tryd.prog.godebug = none := by kernel_rfl
theorem laid : laidOutB Tryd.prog = true := by kernel_rfl
theorem contract {H : Type} {enc : TypeId × Value → H} {W : World} {base : Nat} {args : Array Value} {ds gs : List (DataW H)} {before : List MemPlace}
    (hval0 : ∀ (j : Nat) t v, Tryd.f4.params[j]? = some t → args[j]? = some v → Value.okWide Tryd.prog W .any base t v)
    (hW : DataW.Whole enc Tryd.prog Tryd.f4.params.toList Rows.guardHeadsSpec.vars false W args.toList ds gs before)
    (hL : laidMetH Tryd.prog [("stepwell/kinds.names", Rows.laid_stepwell_kinds_names)] W) :
    Calls Tryd.prog 4 args W fun e W' => e = .returned (.bool true) ∧ Below W.heap.size W W' := by
  have hval : ∀ (j : Nat) t v, Tryd.f4.params[j]? = some t → args[j]? = some v → Value.okWide Tryd.prog W .any base t v := hval0
  obtain ⟨p, q, hA0, hV, rfl, hfz, hnd⟩ := hW
  have hA : DataW.TrodAll enc Tryd.prog W 0 (fun _ => true) true Tryd.f4.params.toList args.toList ds p := hA0
  rw [Tryd.params4] at hA hval
  obtain ⟨v0, vs0, d0, ds0, p0, q0, hargs, rfl, rfl, h0, r0⟩ := trodAll_cons hA
  obtain ⟨v1, vs1, d1, ds1, p1, q1, rfl, rfl, rfl, h1, r1⟩ := trodAll_cons r0
  obtain ⟨v2, vs2, d2, ds2, p2, q2, rfl, rfl, rfl, h2, r2⟩ := trodAll_cons r1
  obtain ⟨rfl, rfl, rfl⟩ := trodAll_nil r2
  obtain rfl : args = #[v0, v1, v2] := by cases args; simp_all
  clear hA0 hval0
  obtain ⟨cs0, rfl, hs0, hf0⟩ := Kit.open_flat Tryd.underlying53 (by kernel_rfl) (by kernel_rfl) (hval 0 53 v0 rfl rfl) h0
  obtain ⟨u0_0, u0_1, u0_2, rfl⟩ := Kit.size_3 hs0
  obtain ⟨A0_0, z0_0, c0_0, rfl, hc0_0, hm0_0, hw0_0, hr0_0⟩ := Kit.flat_islice Tryd.underlying24 Tryd.underlying23 (by kernel_rfl) (v := u0_0) rfl (hf0 0 _ rfl)
  obtain ⟨A0_1, z0_1, c0_1, rfl, hc0_1, hm0_1, hw0_1, hr0_1⟩ := Kit.flat_islice Tryd.underlying25 Tryd.underlying21 (by kernel_rfl) (v := u0_1) rfl (hf0 1 _ rfl)
  obtain ⟨a0_2, rfl, w0_2⟩ := Kit.flat_int Tryd.underlying21 (v := u0_2) rfl (hf0 2 _ rfl)
  obtain ⟨a1, rfl, rfl, rfl, w1⟩ := open_int Tryd.underlying23 (hval 1 23 v1 rfl rfl) h1
  obtain ⟨a2, rfl, rfl, rfl, w2⟩ := open_int Tryd.underlying23 (hval 2 23 v2 rfl rfl) h2
  exact walk (w := W) A0_0 z0_0 c0_0 hc0_0 hm0_0 hw0_0 hr0_0 A0_1 z0_1 c0_1 hc0_1 hm0_1 hw0_1 hr0_1 a0_2 w0_2 a1 w1 a2 w2 (of_laid hL)
theorem fnIs {H : Type} : ∀ ds : List (DataW H), ds.length = Tryd.f4.params.toList.length → Rows.guardHeadsSpec.fn H ds = { results := [.lit (.bool true)], args := ds } := by
  intro ds h
  rw [Tryd.params4] at h
  match ds, h with
  | [d1, d2, d3], _ => rfl
theorem door_met (os : Os) (args : Array Value) : laidMetH Tryd.prog [("stepwell/kinds.names", Rows.laid_stepwell_kinds_names)] ((World.doorLaid Tryd.prog 400 os).forCall (fun _ _ => 0) ⟨#[], args, []⟩).memory :=
  laidMetH_of_parts3 (fuel := 8) (laidMet_of_run' 8 (by kernel_rfl) (by kernel_rfl)) (by kernel_rfl) (by kernel_rfl)
set_option maxRecDepth 100000 in
theorem lifted (os : Os) (started : os.Started) (H : Type) (enc : TypeId × Value → H) :
    ReturnsInHanded {} Tryd.checked os 4 .any (fun w args => (Rows.guardHeadsSpec.pre enc Tryd.prog Tryd.f4 [] false w args ∧ laidMetH Tryd.prog [("stepwell/kinds.names", Rows.laid_stepwell_kinds_names)] w) ∧ sizedMet enc Tryd.prog Tryd.f4 (OpenSpec.ofChange Rows.guardHeadsSpec) false w args) (Rows.guardHeadsSpec.post enc Tryd.prog Tryd.f4 false true false false) := by
  refine returnsInHanded_of_change_and (C := Tryd.checked) (X := fun w _ => laidMetH Tryd.prog [("stepwell/kinds.names", Rows.laid_stepwell_kinds_names)] w) (fun _ _ _ hh h => h.of_heap hh) own started (by kernel_rfl) Tryd.func4
    (ChangeSpec.witness_shaped (enc := enc) (C := Tryd.checked) (os := os) (X := fun w _ => laidMetH Tryd.prog [("stepwell/kinds.names", Rows.laid_stepwell_kinds_names)] w) false (World.doorLaid Tryd.prog 400 os) #[.agg #[.slice none 0 0, .slice none 0 0, .int .i32 0], .int .i8 0, .int .i8 0] 8 rfl (World.shaped_of_RefB (by kernel_rfl) (by kernel_rfl)) (by kernel_rfl) (by kernel_rfl) (by kernel_rfl) (door_met os _)) ?_
  intro W base args ds gs before hval hW _ _ hL _
  refine (contract hval hW hL).mono fun e W' ⟨he, hg⟩ => ?_
  subst he
  exact ⟨_, rfl, Kit.law_post (tb := 4) laid (by kernel_rfl) rfl (by kernel_rfl) Tryd.underlying4 fnIs hW hg⟩
theorem over : Rows.guardHeadsRow.holds Tryd.pinned (OpenSpec.ofChange Rows.guardHeadsSpec) :=
  OpenClaim.holds_of_wide 4 Tryd.f4 rfl rfl rfl rfl rfl rfl rfl ⟨rfl, rfl, rfl, rfl, rfl⟩ rfl rfl rfl rfl rfl (by kernel_rfl) Tryd.func4 (by kernel_rfl)
    (of_decide_eq_true (by kernel_rfl)) (by unfold Func.isWrapper; first | (rw [if_pos (by decide +kernel)]; kernel_rfl) | (rw [if_neg (by decide +kernel)]; exact ⟨rfl, rfl⟩))
    (fun os started H enc _ => lifted os started H enc)
/-- the statement: the tied card. -/
theorem proved : Rows.GuardHeadsCardSaid :=
  Claim7.holds_tied_plain_at .later [] [.data] true (true, "7be002e17f93e2207bf7dc119771c6eb324e58f551931b31c07ba85cee8dddf2") false
    over (fun _ h => by cases h) (by kernel_rfl) (fun _ h => by cases h) guardHeads_row_tie rfl ⟨rfl, rfl⟩ (by kernel_rfl) rfl
    (fun f fn hf hfn => by
      obtain rfl : f = 4 := Option.some.inj ((show Tryd.prog.funcNamed "stepwell/stepwelllaw32.GuardHeads" = some 4 by kernel_rfl).symm.trans hf) |>.symm
      obtain rfl : fn = Tryd.f4 := (Option.some.inj (Tryd.func4.symm.trans hfn)).symm
      exact ⟨by kernel_rfl, fun j t ht => by
        rw [Tryd.params4] at ht
        have hm : t ∈ [53, 23, 23] := by simpa using Array.mem_of_getElem? ht
        have hall : ([53, 23, 23].all fun u => !Tryd.prog.wantsStandIn u) = true := by kernel_rfl
        exact (show Tryd.prog.wantsStandIn t = false by simpa using List.all_eq_true.1 hall t hm)⟩)
    (by kernel_rfl)
end Go.Proofs.YtceehogkckdbkaaDoor.lawGuardHeads
