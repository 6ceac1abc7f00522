/- Layer 33 (valid), ValidBlocks: which block may be, and which node is wrong first, and why, is what the document says: whatever the block, the shape that comes in, the number of classes, and whether the block is the last one; the call returns true and leaves its arguments as they were. The names of the kinds are listed as the program's text lays them. Written by gen_valid5.py. -/
import Derived.Test.YtoffcaldhojjoaaDoorTie
import Derived.Test.YtoffcaldhojjoaaDoorCards
import Derived.Test.YtoffcaldhojjoaaDoorGVA48
import Derived.Test.YtoffcaldhojjoaaDoorGVA50
namespace Go.Proofs.YtoffcaldhojjoaaDoor.CConv
end Go.Proofs.YtoffcaldhojjoaaDoor.CConv
namespace Go.Proofs.YtoffcaldhojjoaaDoor.CCost
end Go.Proofs.YtoffcaldhojjoaaDoor.CCost
namespace Go.Proofs.YtoffcaldhojjoaaDoor.CFix
end Go.Proofs.YtoffcaldhojjoaaDoor.CFix
namespace Go.Proofs.YtoffcaldhojjoaaDoor.CGraph
end Go.Proofs.YtoffcaldhojjoaaDoor.CGraph
namespace Go.Proofs.YtoffcaldhojjoaaDoor.CKind
end Go.Proofs.YtoffcaldhojjoaaDoor.CKind
namespace Go.Proofs.YtoffcaldhojjoaaDoor.CSat
end Go.Proofs.YtoffcaldhojjoaaDoor.CSat
namespace Go.Proofs.YtoffcaldhojjoaaDoor.CSpan
end Go.Proofs.YtoffcaldhojjoaaDoor.CSpan
namespace Go.Proofs.YtoffcaldhojjoaaDoor.CTensor
end Go.Proofs.YtoffcaldhojjoaaDoor.CTensor
namespace Go.Proofs.YtoffcaldhojjoaaDoor.lawValidBlocks
open Go Go.ChangeShapes Go.WideShapes Go.ChangeAt Go.RowKit Go.Deep
open Plain CSat CFix CShape CTensor CConv CSpan CKind CGraph CJoin CGuard CBund CCost CVerd CValid
set_option maxRecDepth 100000
set_option linter.unusedVariables false
set_option linter.unusedSimpArgs false
theorem few_one {b : Bk} {B1 B2 : Nat} (h : FewBu (uOne b B1 B2)) : FewK b := (h.2 0 (show (0 : Nat) < 1 by decide)).2 0 (show (0 : Nat) < 1 by decide)
set_option maxHeartbeats 16000000 in
theorem walk0 (b : Bk) (t0 : Tri) (cl : Int) (last : Bool) (w : World) (hb : BkOk w w.heap.size b) (hT : zan w) :
    Calls Tryd.prog 3 #[.agg b.val.toArray, .agg #[.int .i64 t0.1, .int .i64 t0.2.1, .int .i64 t0.2.2], .int .i64 cl, .bool last] w fun e w' => e = .returned (.bool true) ∧ Below w.heap.size w w' := by
  obtain ⟨s, hs⟩ := ls_of hb
  have CC : Hid (∀ (hf : FewK b) (wx : World), Below w.heap.size w wx → Calls Tryd.prog 7 #[.agg b.val.toArray, .agg #[.int .i64 t0.1, .int .i64 t0.2.1, .int .i64 t0.2.2], .int .i64 cl, .bool last] wx (Says (bkP b s t0 cl last) (bkZ b s t0 cl last) wx)) :=
    Lib.hid (fun hf wx hx => cblock33_to b s t0 cl last wx ((⟨hb.nodes, hs, hf⟩ : BkRdy w b s).below hx) (hT.grown hx))
  have CR : Hid (∀ (hf : FewK b) (wx : World), Below w.heap.size w wx → Calls Tryd.prog 8 #[.agg b.val.toArray, .agg #[.int .i64 t0.1, .int .i64 t0.2.1, .int .i64 t0.2.2], .int .i64 cl, .bool last] wx (Says (bkP b s t0 cl last) (bkZ b s t0 cl last) wx)) :=
    Lib.hid (fun hf wx hx => rblock33_to b s t0 cl last wx ((⟨hb.nodes, hs, hf⟩ : BkRdy w b s).below hx))
  generalize bkP b s t0 cl last = P at CC CR
  generalize bkZ b s t0 cl last = Z at CC CR
  have hb1 := (Below.refl w.heap.size w).alloc (Nat.le_refl _) (.cells b.val.toArray 28)
  have hb2 : Below (w.heap.size + 1) (w.alloc (.cells b.val.toArray 28)) ((w.alloc (.cells b.val.toArray 28)).alloc (.cells #[.int .i64 t0.1, .int .i64 t0.2.1, .int .i64 t0.2.2] 30)) := (Below.refl _ _).alloc (by simp) _
  have HB0 := Lib.hid (hb1.trans (hb2.mono (by omega)))
  have HK := Lib.hid ((BkAt.new b 28 w).below (Nat.lt_succ_self _) hb2)
  have q2 := TriAt.new t0 30 (w.alloc (.cells b.val.toArray 28))
  simp only [World.size_alloc] at q2
  have HO := Lib.hid q2
  have HSZ : Hid (w.heap.size + 1 < ((w.alloc (.cells b.val.toArray 28)).alloc (.cells #[.int .i64 t0.1, .int .i64 t0.2.1, .int .i64 t0.2.2] 30)).heap.size) := Lib.hid (by simp)
  have HBK := Lib.hid hb
  have HT := Lib.hid hT
  clear hb hT hb1 hb2 q2 hs
  go_enter Tryd.func3, Tryd.ntmps3
  go_upto_region 1 with fail
  generalize ((w.alloc (.cells b.val.toArray 28)).alloc (.cells #[.int .i64 t0.1, .int .i64 t0.2.1, .int .i64 t0.2.2] 30)) = W0 at HB0 HK HO HSZ ⊢
  obtain ⟨k0, k1, k2, k3, k4⟩ := HK.out
  obtain ⟨a0, a1, a2⟩ := HO.out
  go_wp2_with (first
    | (go_at_call 5
       refine (rfew33_to (uOne b W0.heap.size (W0.heap.size + 1)) _ (one_ok b W0 ((HBK.out.below HB0.out).more HB0.out.size) 28 34)).mono ?_
       rintro e w1 ⟨bf, rfl, hfew, hb⟩
       have hal : Below W0.heap.size W0 ((W0.alloc (.cells b.val.toArray 28)).alloc (.cells #[.slice (some ⟨W0.heap.size, 0, none⟩) 1 1] 34)) := ((Below.refl _ _).alloc (Nat.le_refl _) _).alloc (by simp) _
       have hh : Below W0.heap.size W0 w1 := hal.trans (hb.mono hal.size)
       have HB1 := Lib.hid (HB0.out.trans (hh.mono HB0.out.size))
       have HK1 := Lib.hid (HK.out.below (B' := W0.heap.size) (by have := HSZ.out; omega) hh)
       have HO1 := Lib.hid (HO.out.below (B' := W0.heap.size) HSZ.out hh)
       have HSZ1 := Lib.hid (Nat.lt_of_lt_of_le HSZ.out hh.size)
       have HFW : Hid (FewIs bf (FewBu (uOne b W0.heap.size (W0.heap.size + 1)))) := Lib.hid hfew
       clear hfew hb hal hh k0 k1 k2 k3 k4 a0 a1 a2
       obtain ⟨k0, k1, k2, k3, k4⟩ := HK1.out
       obtain ⟨a0, a1, a2⟩ := HO1.out
       rcases bf with _ | _)
    | (go_at_call 7
       refine (CC.out (few_one (HFW.out rfl)) _ HB1.out).mono ?_
       rintro e w2 ⟨rfl, hb⟩
       have HB2 := Lib.hid (HB1.out.trans (hb.mono HB1.out.size))
       have HK2 := Lib.hid (HK1.out.below (B' := w1.heap.size) (by have := HSZ1.out; omega) hb)
       have HO2 := Lib.hid (HO1.out.below (B' := w1.heap.size) HSZ1.out hb)
       clear hb k0 k1 k2 k3 k4 a0 a1 a2
       obtain ⟨k0, k1, k2, k3, k4⟩ := HK2.out
       obtain ⟨a0, a1, a2⟩ := HO2.out)
    | (go_at_call 8
       refine (CR.out (few_one (HFW.out rfl)) _ HB2.out).mono ?_
       rintro e w3 ⟨rfl, hb⟩
       have HB3 := Lib.hid (HB2.out.trans (hb.mono HB2.out.size))
       clear hb k0 k1 k2 k3 k4 a0 a1 a2)
    | (go_at_call 6
       first | refine (known33 _ (HT.out.grown HB3.out)).mono ?_ | refine (known33 _ (HT.out.grown HB1.out)).mono ?_
       rintro e w9 ⟨rfl, hb9⟩))
  · go_ret
    exact ⟨rfl, HB1.out.trans (hb9.mono HB1.out.size)⟩
  · go_ret
    exact ⟨rfl, HB3.out.trans (hb9.mono HB3.out.size)⟩
theorem walk {w : World} (b : Bk) (hb : BkOk w w.heap.size b) (H : Int) (wH : (Lit.int .i64 H).wf = true) (W : Int) (wW : (Lit.int .i64 W).wf = true) (C : Int) (wC : (Lit.int .i64 C).wf = true) (cl : Int) (wcl : (Lit.int .i64 cl).wf = true) (last : Bool) (hT : zan w) :
    Calls Tryd.prog 3 #[.agg b.val.toArray, .agg #[.int .i64 H, .int .i64 W, .int .i64 C], .int .i64 cl, .bool last] w fun e w' => e = .returned (.bool true) ∧ Below w.heap.size w w' :=
  walk0 b (H, W, C) cl last w hb hT
/-! ### the frame: written by program -/
theorem own : ownKnob Tryd.prog.godebug = none := by kernel_rfl
theorem laid : laidOutB Tryd.prog = true := by kernel_rfl
theorem contract {H : Type} {enc : TypeId × Value → H} {W : World} {base : Nat} {args : Array Value} {ds gs : List (DataW H)} {before : List MemPlace}
    (hval0 : ∀ (j : Nat) t v, Tryd.f3.params[j]? = some t → args[j]? = some v → Value.okWide Tryd.prog W .any base t v)
    (hW : DataW.Whole enc Tryd.prog Tryd.f3.params.toList Rows.validBlocksSpec.vars false W args.toList ds gs before)
    (hL : laidMetH Tryd.prog [("stepwell/kinds.names", Rows.laid_stepwell_kinds_names)] W) :
    Calls Tryd.prog 3 args W fun e W' => e = .returned (.bool true) ∧ Below W.heap.size W W' := by
  have hval : ∀ (j : Nat) t v, Tryd.f3.params[j]? = some t → args[j]? = some v → Value.okWide Tryd.prog W .any base t v := hval0
  obtain ⟨p, q, hA0, hV, rfl, hfz, hnd⟩ := hW
  have hA : DataW.TrodAll enc Tryd.prog W 0 (fun _ => true) true Tryd.f3.params.toList args.toList ds p := hA0
  rw [Tryd.params3] at hA hval
  obtain ⟨v0, vs0, d0, ds0, p0, q0, hargs, rfl, rfl, h0, r0⟩ := trodAll_cons hA
  obtain ⟨v1, vs1, d1, ds1, p1, q1, rfl, rfl, rfl, h1, r1⟩ := trodAll_cons r0
  obtain ⟨v2, vs2, d2, ds2, p2, q2, rfl, rfl, rfl, h2, r2⟩ := trodAll_cons r1
  obtain ⟨v3, vs3, d3, ds3, p3, q3, rfl, rfl, rfl, h3, r3⟩ := trodAll_cons r2
  obtain ⟨rfl, rfl, rfl⟩ := trodAll_nil r3
  obtain rfl : args = #[v0, v1, v2, v3] := by cases args; simp_all
  clear hA0 hval0
  obtain ⟨b0, rfl, hb0⟩ := CBund.open_block (hval 0 28 v0 rfl rfl) h0
  obtain ⟨cs1, rfl, hs1, hf1⟩ := Kit.open_flat Tryd.underlying30 (by kernel_rfl) (by kernel_rfl) (hval 1 30 v1 rfl rfl) h1
  obtain ⟨u1_0, u1_1, u1_2, rfl⟩ := Kit.size_3 hs1
  obtain ⟨a1_0, rfl, w1_0⟩ := Kit.flat_int Tryd.underlying3 (v := u1_0) rfl (hf1 0 _ rfl)
  obtain ⟨a1_1, rfl, w1_1⟩ := Kit.flat_int Tryd.underlying3 (v := u1_1) rfl (hf1 1 _ rfl)
  obtain ⟨a1_2, rfl, w1_2⟩ := Kit.flat_int Tryd.underlying3 (v := u1_2) rfl (hf1 2 _ rfl)
  obtain ⟨a2, rfl, rfl, rfl, w2⟩ := open_int Tryd.underlying3 (hval 2 3 v2 rfl rfl) h2
  obtain ⟨a3, rfl, rfl, rfl⟩ := open_bool Tryd.underlying4 (hval 3 4 v3 rfl rfl) h3
  exact walk (w := W) b0 hb0 a1_0 w1_0 a1_1 w1_1 a1_2 w1_2 a2 w2 a3 (of_laid hL)
theorem fnIs {H : Type} : ∀ ds : List (DataW H), ds.length = Tryd.f3.params.toList.length → Rows.validBlocksSpec.fn H ds = { results := [.lit (.bool true)], args := ds } := by
  intro ds h
  rw [Tryd.params3] at h
  match ds, h with
  | [d1, d2, d3, d4], _ => rfl
theorem door_met (os : Os) (args : Array Value) : laidMetH Tryd.prog [("stepwell/kinds.names", Rows.laid_stepwell_kinds_names)] ((World.doorLaid Tryd.prog 400 os).forCall (fun _ _ => 0) ⟨#[], args, []⟩).memory :=
  laidMetH_of_parts3 (fuel := 8) (laidMet_of_run' 8 (by kernel_rfl) (by kernel_rfl)) (by kernel_rfl) (by kernel_rfl)
set_option maxRecDepth 100000 in
theorem lifted (os : Os) (started : os.Started) (H : Type) (enc : TypeId × Value → H) :
    ReturnsInHanded {} Tryd.checked os 3 .any (fun w args => (Rows.validBlocksSpec.pre enc Tryd.prog Tryd.f3 [] false w args ∧ laidMetH Tryd.prog [("stepwell/kinds.names", Rows.laid_stepwell_kinds_names)] w) ∧ sizedMet enc Tryd.prog Tryd.f3 (OpenSpec.ofChange Rows.validBlocksSpec) false w args) (Rows.validBlocksSpec.post enc Tryd.prog Tryd.f3 false true false false) := by
  refine returnsInHanded_of_change_and (C := Tryd.checked) (X := fun w _ => laidMetH Tryd.prog [("stepwell/kinds.names", Rows.laid_stepwell_kinds_names)] w) (fun _ _ _ hh h => h.of_heap hh) own started (by kernel_rfl) Tryd.func3
    (ChangeSpec.witness_shaped (enc := enc) (C := Tryd.checked) (os := os) (X := fun w _ => laidMetH Tryd.prog [("stepwell/kinds.names", Rows.laid_stepwell_kinds_names)] w) false (World.doorLaid Tryd.prog 400 os) #[.agg #[.slice none 0 0, .bool false, .slice none 0 0, .slice none 0 0, .int .i32 0], .agg #[.int .i64 0, .int .i64 0, .int .i64 0], .int .i64 0, .bool false] 8 rfl (World.shaped_of_RefB (by kernel_rfl) (by kernel_rfl)) (by kernel_rfl) (by kernel_rfl) (by kernel_rfl) (door_met os _)) ?_
  intro W base args ds gs before hval hW _ _ hL _
  refine (contract hval hW hL).mono fun e W' ⟨he, hg⟩ => ?_
  subst he
  exact ⟨_, rfl, Kit.law_post (tb := 4) laid (by kernel_rfl) rfl (by kernel_rfl) Tryd.underlying4 fnIs hW hg⟩
theorem over : Rows.validBlocksRow.holds Tryd.pinned (OpenSpec.ofChange Rows.validBlocksSpec) :=
  OpenClaim.holds_of_wide 3 Tryd.f3 rfl rfl rfl rfl rfl rfl rfl ⟨rfl, rfl, rfl, rfl, rfl⟩ rfl rfl rfl rfl rfl (by kernel_rfl) Tryd.func3 (by kernel_rfl)
    (of_decide_eq_true (by kernel_rfl)) (by unfold Func.isWrapper; first | (rw [if_pos (by decide +kernel)]; kernel_rfl) | (rw [if_neg (by decide +kernel)]; exact ⟨rfl, rfl⟩))
    (fun os started H enc _ => lifted os started H enc)
/-- the statement: the tied card. -/
theorem proved : Rows.ValidBlocksCardSaid :=
  Claim7.holds_tied_plain_at .later [] [.data] true (true, "81e7372154e57c08e1293dad56667cc7252e67de753d5e9965f365922b20ce17") false
    over (fun _ h => by cases h) (by kernel_rfl) (fun _ h => by cases h) validBlocks_row_tie rfl ⟨rfl, rfl⟩ (by kernel_rfl) rfl
    (fun f fn hf hfn => by
      obtain rfl : f = 3 := Option.some.inj ((show Tryd.prog.funcNamed "stepwell/stepwelllaw33.ValidBlocks" = some 3 by kernel_rfl).symm.trans hf) |>.symm
      obtain rfl : fn = Tryd.f3 := (Option.some.inj (Tryd.func3.symm.trans hfn)).symm
      exact ⟨by kernel_rfl, fun j t ht => by
        rw [Tryd.params3] at ht
        have hm : t ∈ [28, 30, 3, 4] := by simpa using Array.mem_of_getElem? ht
        have hall : ([28, 30, 3, 4].all fun u => !Tryd.prog.wantsStandIn u) = true := by kernel_rfl
        exact (show Tryd.prog.wantsStandIn t = false by simpa using List.all_eq_true.1 hall t hm)⟩)
    (by kernel_rfl)
end Go.Proofs.YtoffcaldhojjoaaDoor.lawValidBlocks
