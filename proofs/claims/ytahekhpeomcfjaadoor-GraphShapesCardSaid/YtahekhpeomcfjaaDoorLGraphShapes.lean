/- Layer 27 (graph), GraphShapes: the shapes of all values of any nodes, which node is wrong first, and why, are those of the document; so is who takes each value last; the call returns true and leaves its arguments as they were. The names of the kinds are listed and tied to the program's text; no other condition. -/
import Derived.Deep.CutRange
import Derived.Test.YtahekhpeomcfjaaDoorTie
import Derived.Test.YtahekhpeomcfjaaDoorCards
import Derived.SevenTiedAt
import Derived.Test.YtahekhpeomcfjaaDoorGE49
import Derived.Test.YtahekhpeomcfjaaDoorGE50
namespace Go.Proofs.YtahekhpeomcfjaaDoor.CConv
end Go.Proofs.YtahekhpeomcfjaaDoor.CConv
namespace Go.Proofs.YtahekhpeomcfjaaDoor.CTensor
end Go.Proofs.YtahekhpeomcfjaaDoor.CTensor
namespace Go.Proofs.YtahekhpeomcfjaaDoor.lawGraphShapes
open Go Go.ChangeShapes Go.WideShapes Go.ChangeAt Go.RowKit Go.Deep
open Plain CSat CFix CShape CTensor CConv CKind CGraph
set_option linter.unusedVariables false
set_option linter.unusedSimpArgs false
def FewIs (n : Nat) (b : Bool) : Prop := b = true → n ≤ 12
set_option maxRecDepth 100000 in
set_option maxHeartbeats 8000000 in
theorem walk_all {w : World} (X : Nat → Nd) (A : Option Addr) (n c : Nat) (hN : NodesAt w w.heap.size A n X) (hX : ∀ j, j < n → (X j).Small) (t0 : Tri) (hT : NamesIn w) :
    Calls Tryd.prog 3 #[.slice A n c, .agg #[.int .i64 t0.1, .int .i64 t0.2.1, .int .i64 t0.2.2]] w fun e w' => e = .returned (.bool true) ∧ Below w.heap.size w w' := by
  obtain ⟨q0, q1, q2⟩ := sh_cells t0 w
  have HB0 := Lib.hid ((Below.refl w.heap.size w).alloc (Nat.le_refl _) (.cells #[.int .i64 t0.1, .int .i64 t0.2.1, .int .i64 t0.2.2] 24))
  have hsz : w.heap.size < (w.alloc (.cells #[.int .i64 t0.1, .int .i64 t0.2.1, .int .i64 t0.2.2] 24)).heap.size := by simp
  have HSZ := Lib.hid hsz
  have HT := Lib.hid hT
  have HN := Lib.hid hN
  have HX := Lib.hid hX
  clear hT hN hX hsz
  go_enter Tryd.func3, Tryd.ntmps3
  go_upto_region 1 with fail
  generalize w.alloc (.cells #[.int .i64 t0.1, .int .i64 t0.2.1, .int .i64 t0.2.2] 24) = W0 at q0 q1 q2 HB0 HSZ ⊢
  have Q0 : Hid (∀ wx, Below (w.heap.size + 1) W0 wx → wx.cell? ⟨w.heap.size, 0, none⟩ = some (.int .i64 t0.1) ∧ wx.cell? ⟨w.heap.size, 1, none⟩ = some (.int .i64 t0.2.1) ∧ wx.cell? ⟨w.heap.size, 2, none⟩ = some (.int .i64 t0.2.2)) :=
    Lib.hid (fun wx h => ⟨(h.cell (p := ⟨w.heap.size, 0, none⟩) (Nat.lt_succ_self _)).trans q0, (h.cell (p := ⟨w.heap.size, 1, none⟩) (Nat.lt_succ_self _)).trans q1, (h.cell (p := ⟨w.heap.size, 2, none⟩) (Nat.lt_succ_self _)).trans q2⟩)
  clear q0 q1 q2
  have hol := outL_len X t0 n
  obtain ⟨m, hm⟩ : ∃ m, (outL X t0 n).length = m := ⟨_, rfl⟩
  obtain ⟨p, hp⟩ : ∃ p, outP X t0 n = p := ⟨_, rfl⟩
  obtain ⟨z, hz⟩ : ∃ z, outZ X t0 n = z := ⟨_, rfl⟩
  rw [hm] at hol
  have HOL := Lib.hid hol
  have HM := Lib.hid hm
  have HP := Lib.hid hp
  have HZ := Lib.hid hz
  clear hm hp hz hol
  go_upto_region 6 with (first
      | (go_at_call 4
         refine (few_to X n c A _ ((HN.out.below HB0.out).more HB0.out.size)).mono ?_
         rintro e w1 ⟨b, rfl, hfew, hb⟩
         have HFW : Hid (FewIs n b) := Lib.hid hfew
         have HB1 := Lib.hid (HB0.out.trans (hb.mono HB0.out.size))
         have HV1 := Lib.hid (hb.mono HSZ.out)
         clear hfew hb
         obtain ⟨g0, g1, g2⟩ := Q0.out _ HV1.out
         rcases b with _ | _)
      | (go_at_call 5
         refine (known27 _).mono ?_
         rintro e w9 ⟨rfl, hb9⟩)
      | (go_at_call 6
         refine (cshapes_to X t0 n c (by have := HFW.out rfl; omega) A _ (HT.out.below HB1.out HT.out.size) HX.out ((HN.out.below HB1.out).more HB1.out.size)).mono ?_
         rintro e w2 hpost
         obtain ⟨A5, c5, rfl, hr5, hb⟩ := shp_view hpost
         rw [HM.out, HP.out, HZ.out]
         have HR5 := Lib.hid hr5
         have HB2 := Lib.hid (HB1.out.trans (hb.mono HB1.out.size))
         have HV2 := Lib.hid (HV1.out.trans (hb.mono (Nat.le_trans HSZ.out HV1.out.size)))
         clear hpost hr5 hb g0 g1 g2
         obtain ⟨g0, g1, g2⟩ := Q0.out _ HV2.out)
      | (go_at_call 7
         refine (rshapes_to X t0 n c (by have := HFW.out rfl; omega) A _ ((HN.out.below HB2.out).more HB2.out.size)).mono ?_
         rintro e w3 hpost
         obtain ⟨A6, c6, rfl, hr6, hb⟩ := shp_view hpost
         rw [HM.out, HP.out, HZ.out]
         have HR6 := Lib.hid hr6
         have HB3 := Lib.hid (HB2.out.trans (hb.mono HB2.out.size))
         replace HR5 := Lib.hid ((HR5.out.below hb).more hb.size)
         clear hpost hr6 hb g0 g1 g2)
      | (go_at_call 8
         refine (clast_to X n c (by have := HFW.out rfl; omega) A _ ((HN.out.below HB3.out).more HB3.out.size)).mono ?_
         rintro e w4 ⟨A7, c7, rfl, hr7, hb⟩
         have HR7 := Lib.hid hr7
         have HB4 := Lib.hid (HB3.out.trans (hb.mono HB3.out.size))
         replace HR5 := Lib.hid ((HR5.out.below hb).more hb.size)
         replace HR6 := Lib.hid ((HR6.out.below hb).more hb.size)
         clear hr7 hb))
  · go_ret
    exact ⟨rfl, HB1.out.trans (hb9.mono HB1.out.size)⟩
  · have hn : n ≤ 12 := HFW.out rfl
    have en : IntKind.i64.wrap ((n : Int) + 1) = (n : Int) + 1 := IntWalk.i64_in _ (by omega)
    clear HB1 HB2 HB3 HV1 HV2 Q0 HSZ HB0
    go_wp2_with fail
    go_loopw [12] (fun u wr => ∃ i : Nat, i ≤ m ∧ u = .int .i64 i ∧ Hid (Below w4.heap.size w4 wr)) (fun u _ => m - (intOf u).toNat)
    case atStart => exact ⟨0, Nat.zero_le _, rfl, Lib.hid (Below.refl _ _)⟩
    case round =>
      obtain ⟨i, hi, rfl, HW⟩ := hrel
      have hm14 : m ≤ 13 := by have := HOL.out; omega
      by_cases hlt : i < m
      · obtain ⟨a, ha, -⟩ := tvV_at (L := outL X t0 n) (k := i) HM.out hlt
        obtain ⟨b5, o5, rfl, x5, h5⟩ := tv_cells HR5.out (by have := HM.out; omega)
        obtain ⟨b6, o6, rfl, x6, h6⟩ := tv_cells HR6.out (by have := HM.out; omega)
        have r5 := h5 i a ha
        have r6 := h6 i a ha
        have ib : (0 : Int) ≤ (i : Int) := by omega
        have i1 : (i : Int) < (m : Int) := by omega
        have HC1 : Hid (∀ wS, Below wr.heap.size wr wS → wS.cell? ⟨b5, o5 + i * 3, none⟩ = some (.int .i64 a.1) ∧ wS.cell? ⟨b5, o5 + i * 3 + 1, none⟩ = some (.int .i64 a.2.1) ∧ wS.cell? ⟨b5, o5 + i * 3 + 2, none⟩ = some (.int .i64 a.2.2)) :=
          Lib.hid (fun wS h => have hh := HW.out.trans (h.mono HW.out.size); ⟨(hh.cell (p := ⟨b5, o5 + i * 3, none⟩) x5).trans (r5 0 _ rfl), (hh.cell (p := ⟨b5, o5 + i * 3 + 1, none⟩) x5).trans (r5 1 _ rfl), (hh.cell (p := ⟨b5, o5 + i * 3 + 2, none⟩) x5).trans (r5 2 _ rfl)⟩)
        have HC2 : Hid (∀ wS, Below wr.heap.size wr wS → wS.cell? ⟨b6, o6 + i * 3, none⟩ = some (.int .i64 a.1) ∧ wS.cell? ⟨b6, o6 + i * 3 + 1, none⟩ = some (.int .i64 a.2.1) ∧ wS.cell? ⟨b6, o6 + i * 3 + 2, none⟩ = some (.int .i64 a.2.2)) :=
          Lib.hid (fun wS h => have hh := HW.out.trans (h.mono HW.out.size); ⟨(hh.cell (p := ⟨b6, o6 + i * 3, none⟩) x6).trans (r6 0 _ rfl), (hh.cell (p := ⟨b6, o6 + i * 3 + 1, none⟩) x6).trans (r6 1 _ rfl), (hh.cell (p := ⟨b6, o6 + i * 3 + 2, none⟩) x6).trans (r6 2 _ rfl)⟩)
        have HQ := Lib.hid (CGraph.eqShape a.1 a.2.1 a.2.2 a.1 a.2.1 a.2.2)
        have HG := Lib.hid Tryd.eqGuardType24
        clear ha h5 h6 r5 r6 x5 x6
        go_upto_region 11 with fail
        refine wp_region_held_drew (S := fun wx => Below wr.heap.size wr wx) (by kernel_rfl) (Below.refl _ _).drew (fun hHeld => ?_)
        generalize wr.drew = W1 at hHeld ⊢
        refine Tk.x 0 rfl ?_
        try simp only [Tk.put]
        refine Tk.x 1 rfl ?_
        try simp only [Tk.put]
        refine Tk.x 2 rfl ?_
        try simp only [Tk.put]
        refine Tk.y 3 (v := .agg #[.int .i64 a.1, .int .i64 a.2.1, .int .i64 a.2.2]) rfl ?_ ?_
        · intro wS hSw
          obtain ⟨q0, q1, q2⟩ := HC1.out wS hSw
          first | (go_simp; done) | (go_simp; with_reducible rfl)
        try simp only [Tk.put]
        refine Tk.x 4 rfl ?_
        try simp only [Tk.put]
        refine Tk.x 5 rfl ?_
        try simp only [Tk.put]
        refine Tk.x 6 rfl ?_
        try simp only [Tk.put]
        refine Tk.y 7 (v := .agg #[.int .i64 a.1, .int .i64 a.2.1, .int .i64 a.2.2]) rfl ?_ ?_
        · intro wS hSw
          obtain ⟨q0, q1, q2⟩ := HC2.out wS hSw
          first | (go_simp; done) | (go_simp; with_reducible rfl)
        try simp only [Tk.put]
        refine Tk.y 8 (v := .bool false) rfl ?_ ?_
        · intro wS hSw
          have hq := HQ.out
          have hgd := HG.out
          first | (go_simp; done) | (go_simp; with_reducible rfl)
        try simp only [Tk.put]
        refine wpAnyH_done (by kernel_rfl) ?_ _
        go_wp2_with fail
        go_roundw
        case rel => exact ⟨i + 1, by omega, by go_num, Lib.hid (HW.out.trans (hHeld.mono HW.out.size))⟩
        case measure => simp [intOf]; omega
      · obtain rfl : i = m := by omega
        clear hm14
        obtain ⟨wo, hwo⟩ : ∃ wo, wo = wr := ⟨_, rfl⟩
        rw [← hwo] at HW
        have HWO := Lib.hid hwo
        clear hwo
        go_wp2_with fail
        go_loopw [13] (fun u wr => ∃ j : Nat, j ≤ n + 1 ∧ u = .int .i64 j ∧ Hid (Below w4.heap.size w4 wr)) (fun u _ => n + 1 - (intOf u).toNat)
        case atStart => exact ⟨0, Nat.zero_le _, rfl, by rw [← HWO.out]; exact HW⟩
        case round =>
          obtain ⟨j, hj, rfl, HW2⟩ := hrel
          clear HW HWO
          by_cases hltj : j < n + 1
          · obtain ⟨b7, o7, rfl, x7, h7⟩ := rdI_at HR7.out (by omega)
            have r7 := h7 j hltj
            have jb : (0 : Int) ≤ (j : Int) := by omega
            have j1 : (j : Int) < ((n + 1 : Nat) : Int) := by omega
            have j2 : (j : Int) < (n : Int) + 1 := by omega
            obtain ⟨t, ht⟩ : ∃ t, lastZ X n j = t := ⟨_, rfl⟩
            rw [ht] at r7
            have HC : Hid (∀ wS, Below wr.heap.size wr wS → wS.cell? ⟨b7, o7 + j, none⟩ = some (.int .i64 t)) :=
              Lib.hid (fun wS h => ((HW2.out.trans (h.mono HW2.out.size)).cell (p := ⟨b7, o7 + j, none⟩) x7).trans r7)
            have CR : Hid (∀ wS, Below wr.heap.size wr wS → Calls Tryd.prog 9 #[.slice A n c, .int .i64 j] wS fun e w' => e = .returned (.int .i64 t) ∧ Below wS.heap.size wS w') := by
              refine Lib.hid fun wS h => ?_
              have hh := HB4.out.trans ((HW2.out.trans (h.mono HW2.out.size)).mono HB4.out.size)
              have := rlast_to X n c (by omega) j (by omega) A wS ((HN.out.below hh).more hh.size)
              rw [ht] at this; exact this
            clear h7 r7 ht x7
            go_upto_region 16 with fail
            refine wp_region_held_drew (S := fun wx => Below wr.heap.size wr wx) (by kernel_rfl) (Below.refl _ _).drew (fun hHeld => ?_)
            generalize wr.drew = W1 at hHeld ⊢
            refine Tk.x 0 rfl ?_
            try simp only [Tk.put]
            refine Tk.x 1 rfl ?_
            try simp only [Tk.put]
            refine Tk.x 2 rfl ?_
            try simp only [Tk.put]
            refine Tk.y 3 (v := .int .i64 t) rfl ?_ ?_
            · intro wS hSw
              have q := HC.out wS hSw
              first | (go_simp; done) | (go_simp; with_reducible rfl)
            try simp only [Tk.put]
            refine Tk.x 4 rfl ?_
            try simp only [Tk.put]
            refine Tk.x 5 rfl ?_
            try simp only [Tk.put]
            refine Tk.s 6 rfl (fun Kq hK => ?_)
            go_simp
            go_at_call 9
            refine (CR.out _ hHeld).mono ?_
            rintro e W2 ⟨rfl, hb⟩
            have hS2 := hHeld.trans (hb.mono hHeld.size)
            clear hHeld hb
            dsimp only
            refine hK.out _ _ hS2 (fun hHeld => ?_)
            clear hK Kq hS2
            try simp only [Tk.put]
            refine Tk.x 7 rfl ?_
            try simp only [Tk.put]
            refine wpAnyH_done (by kernel_rfl) ?_ _
            go_wp2_with fail
            go_roundw
            case rel => exact ⟨j + 1, by omega, by go_num, Lib.hid (HW2.out.trans (hHeld.mono HW2.out.size))⟩
            case measure => simp [intOf]; omega
          · obtain rfl : j = n + 1 := by omega
            go_wp2_with (go_at_call 5; (refine (known27 _).mono ?_); rintro e w9 ⟨rfl, hb9⟩)
            go_ret
            exact ⟨rfl, HB4.out.trans ((HW2.out.trans (hb9.mono HW2.out.size)).mono HB4.out.size)⟩
theorem walk {w : World} (A : Option Addr) (X : Nat → Nd) (n c : Nat) (hc : n ≤ c) (hm : c ≤ maxLen) (hN : NodesAt w w.heap.size A n X) (hO : ∀ j, j < n → NdOk w w.heap.size (X j)) (H : Int) (wH : (Lit.int .i64 H).wf = true) (W : Int) (wW : (Lit.int .i64 W).wf = true) (C : Int) (wC : (Lit.int .i64 C).wf = true) (hT : NamesIn w) :
    Calls Tryd.prog 3 #[.slice A n c, .agg #[.int .i64 H, .int .i64 W, .int .i64 C]] w fun e w' => e = .returned (.bool true) ∧ Below w.heap.size w w' :=
  walk_all X A n c hN (fun j hj => node_small (hO j hj)) (H, W, C) hT
/-! ### the frame: written by program -/
theorem own : ownKnob Tryd.prog.godebug = none := by kernel_rfl
theorem laid : laidOutB Tryd.prog = true := by kernel_rfl
theorem contract {H : Type} {enc : TypeId × Value → H} {W : World} {base : Nat} {args : Array Value} {ds gs : List (DataW H)} {before : List MemPlace}
    (hval0 : ∀ (j : Nat) t v, Tryd.f3.params[j]? = some t → args[j]? = some v → Value.okWide Tryd.prog W .any base t v)
    (hW : DataW.Whole enc Tryd.prog Tryd.f3.params.toList Rows.graphShapesSpec.vars false W args.toList ds gs before)
    (hL : laidMetH Tryd.prog [("stepwell/kinds.names", Rows.laid_stepwell_kinds_names)] W) :
    Calls Tryd.prog 3 args W fun e W' => e = .returned (.bool true) ∧ Below W.heap.size W W' := by
  have hval : ∀ (j : Nat) t v, Tryd.f3.params[j]? = some t → args[j]? = some v → Value.okWide Tryd.prog W .any base t v := hval0
  obtain ⟨p, q, hA0, hV, rfl, hfz, hnd⟩ := hW
  have hA : DataW.TrodAll enc Tryd.prog W 0 (fun _ => true) true Tryd.f3.params.toList args.toList ds p := hA0
  rw [Tryd.params3] at hA hval
  obtain ⟨v0, vs0, d0, ds0, p0, q0, hargs, rfl, rfl, h0, r0⟩ := trodAll_cons hA
  obtain ⟨v1, vs1, d1, ds1, p1, q1, rfl, rfl, rfl, h1, r1⟩ := trodAll_cons r0
  obtain ⟨rfl, rfl, rfl⟩ := trodAll_nil r1
  obtain rfl : args = #[v0, v1] := by cases args; simp_all
  clear hA0 hval0
  obtain ⟨A0, X0, n0, c0, rfl, hc0, hm0, hN0, hO0⟩ := CGraph.open_nodes (hval 0 22 v0 rfl rfl) h0
  obtain ⟨cs1, rfl, hs1, hf1⟩ := Kit.open_flat Tryd.underlying24 (by kernel_rfl) (by kernel_rfl) (hval 1 24 v1 rfl rfl) h1
  obtain ⟨u1_0, u1_1, u1_2, rfl⟩ := Kit.size_3 hs1
  obtain ⟨a1_0, rfl, w1_0⟩ := Kit.flat_int Tryd.underlying3 (v := u1_0) rfl (hf1 0 _ rfl)
  obtain ⟨a1_1, rfl, w1_1⟩ := Kit.flat_int Tryd.underlying3 (v := u1_1) rfl (hf1 1 _ rfl)
  obtain ⟨a1_2, rfl, w1_2⟩ := Kit.flat_int Tryd.underlying3 (v := u1_2) rfl (hf1 2 _ rfl)
  exact walk (w := W) A0 X0 n0 c0 hc0 hm0 hN0 hO0 a1_0 w1_0 a1_1 w1_1 a1_2 w1_2 (of_laid hL)
theorem fnIs {H : Type} : ∀ ds : List (DataW H), ds.length = Tryd.f3.params.toList.length → Rows.graphShapesSpec.fn H ds = { results := [.lit (.bool true)], args := ds } := by
  intro ds h
  rw [Tryd.params3] at h
  match ds, h with
  | [d1, d2], _ => rfl
theorem door_met (os : Os) (args : Array Value) : laidMetH Tryd.prog [("stepwell/kinds.names", Rows.laid_stepwell_kinds_names)] ((World.doorLaid Tryd.prog 400 os).forCall (fun _ _ => 0) ⟨#[], args, []⟩).memory :=
  laidMetH_of_parts3 (fuel := 8) (laidMet_of_run' 8 (by kernel_rfl) (by kernel_rfl)) (by kernel_rfl) (by kernel_rfl)
set_option maxRecDepth 100000 in
theorem lifted (os : Os) (started : os.Started) (H : Type) (enc : TypeId × Value → H) :
    ReturnsInHanded {} Tryd.checked os 3 .any (fun w args => (Rows.graphShapesSpec.pre enc Tryd.prog Tryd.f3 [] false w args ∧ laidMetH Tryd.prog [("stepwell/kinds.names", Rows.laid_stepwell_kinds_names)] w) ∧ sizedMet enc Tryd.prog Tryd.f3 (OpenSpec.ofChange Rows.graphShapesSpec) false w args) (Rows.graphShapesSpec.post enc Tryd.prog Tryd.f3 false true false false) := by
  refine returnsInHanded_of_change_and (C := Tryd.checked) (X := fun w _ => laidMetH Tryd.prog [("stepwell/kinds.names", Rows.laid_stepwell_kinds_names)] w) (fun _ _ _ hh h => h.of_heap hh) own started (by kernel_rfl) Tryd.func3
    (ChangeSpec.witness_shaped (enc := enc) (C := Tryd.checked) (os := os) (X := fun w _ => laidMetH Tryd.prog [("stepwell/kinds.names", Rows.laid_stepwell_kinds_names)] w) false (World.doorLaid Tryd.prog 400 os) #[.slice none 0 0, .agg #[.int .i64 0, .int .i64 0, .int .i64 0]] 8 rfl (World.shaped_of_RefB (by kernel_rfl) (by kernel_rfl)) (by kernel_rfl) (by kernel_rfl) (by kernel_rfl) (door_met os _)) ?_
  intro W base args ds gs before hval hW _ _ hL _
  refine (contract hval hW hL).mono fun e W' ⟨he, hg⟩ => ?_
  subst he
  exact ⟨_, rfl, Kit.law_post (tb := 4) laid (by kernel_rfl) rfl (by kernel_rfl) Tryd.underlying4 fnIs hW hg⟩
theorem over : Rows.graphShapesRow.holds Tryd.pinned (OpenSpec.ofChange Rows.graphShapesSpec) :=
  OpenClaim.holds_of_wide 3 Tryd.f3 rfl rfl rfl rfl rfl rfl rfl ⟨rfl, rfl, rfl, rfl, rfl⟩ rfl rfl rfl rfl rfl (by kernel_rfl) Tryd.func3 (by kernel_rfl)
    (of_decide_eq_true (by kernel_rfl)) (by unfold Func.isWrapper; first | (rw [if_pos (by decide +kernel)]; kernel_rfl) | (rw [if_neg (by decide +kernel)]; exact ⟨rfl, rfl⟩))
    (fun os started H enc _ => lifted os started H enc)
/-- the statement: the tied card. -/
theorem proved : Rows.GraphShapesCardSaid :=
  Claim7.holds_tied_plain_at .later [] [.data] true (true, "004ec7026ea97a82dcc27f4682714d4ee98d2dc6358c4a4392179de1e761f908") false
    over (fun _ h => by cases h) (by kernel_rfl) (fun _ h => by cases h) graphShapes_row_tie rfl ⟨rfl, rfl⟩ (by kernel_rfl) rfl
    (fun f fn hf hfn => by
      obtain rfl : f = 3 := Option.some.inj ((show Tryd.prog.funcNamed "stepwell/stepwelllaw27.GraphShapes" = some 3 by kernel_rfl).symm.trans hf) |>.symm
      obtain rfl : fn = Tryd.f3 := (Option.some.inj (Tryd.func3.symm.trans hfn)).symm
      exact ⟨by kernel_rfl, fun j t ht => by
        rw [Tryd.params3] at ht
        have hm : t ∈ [22, 24] := by simpa using Array.mem_of_getElem? ht
        have hall : ([22, 24].all fun u => !Tryd.prog.wantsStandIn u) = true := by kernel_rfl
        exact (show Tryd.prog.wantsStandIn t = false by simpa using List.all_eq_true.1 hall t hm)⟩)
    (by kernel_rfl)
end Go.Proofs.YtahekhpeomcfjaaDoor.lawGraphShapes
