/- Layer 31 (cost), CostTables: what each block of any bundle costs, or the first error, and the ends of any table, are those of the document; the call returns true and leaves its arguments as they were. The names of the kinds are listed as the program's text lays them. Written by gen_cost14.py. -/
import Derived.Lib.MinMax
import Derived.Test.YtjhlkmnpfibgaaaDoorTie
import Derived.Test.YtjhlkmnpfibgaaaDoorCards
import Derived.Test.YtjhlkmnpfibgaaaDoorGT49
import Derived.Test.YtjhlkmnpfibgaaaDoorGT50
namespace Go.Proofs.YtjhlkmnpfibgaaaDoor.CConv
end Go.Proofs.YtjhlkmnpfibgaaaDoor.CConv
namespace Go.Proofs.YtjhlkmnpfibgaaaDoor.CDense
end Go.Proofs.YtjhlkmnpfibgaaaDoor.CDense
namespace Go.Proofs.YtjhlkmnpfibgaaaDoor.CSat
end Go.Proofs.YtjhlkmnpfibgaaaDoor.CSat
namespace Go.Proofs.YtjhlkmnpfibgaaaDoor.CTensor
end Go.Proofs.YtjhlkmnpfibgaaaDoor.CTensor
namespace Go.Proofs.YtjhlkmnpfibgaaaDoor.lawCostTables
open Go Go.ChangeShapes Go.WideShapes Go.ChangeAt Go.RowKit Go.Deep
open Plain CSat CFix CShape CTensor CConv CKind CGraph CDense CBund CCost
set_option maxRecDepth 100000
set_option linter.unusedVariables false
set_option linter.unusedSimpArgs false
def tabN (u : Bu) : Nat := if buS u u.n = 0 then u.n else 0
def TabV (u : Bu) (w : World) (e : Ending) (w' : World) : Prop :=
  ∃ (A : Option Addr) (c : Nat) (V : Nat → Value), e = .returned (.tuple #[.slice A (tabN u) c, .int .i64 (buS u u.n)]) ∧ Kit.Rd w' w'.heap.size A (vL V (tabN u)) ∧
    (∀ i, i < tabN u → ∃ Ai ci, V i = .slice Ai (u.M i).n ci ∧ Kit.Rd w' w'.heap.size Ai (rowI (bcZ (u.M i) (mdT0 u) u.cl) (u.M i).n)) ∧ Below w.heap.size w w'
theorem tab_view {u : Bu} {w w' : World} {e : Ending} (h : TabPost u w e w') : TabV u w e w' := by
  obtain ⟨⟨h1, rfl⟩ | ⟨h1, A, c, V, rfl, hr, hrow⟩, hb⟩ := h
  · refine ⟨none, 0, fun _ => undef, ?_, ?_, fun i hi => ?_, hb⟩
    · unfold tabN; rw [if_neg h1]
    · unfold tabN; rw [if_neg h1]; exact Kit.Rd.nil
    · unfold tabN at hi; rw [if_neg h1] at hi; omega
  · have hn : tabN u = u.n := if_pos h1
    refine ⟨A, c, V, by rw [hn, h1], by rw [hn]; exact hr, fun i hi => ?_, hb⟩
    rw [hn] at hi
    obtain ⟨Ai, ci, e, -, -, hrd⟩ := Kit.zbw (hrow i hi)
    exact ⟨Ai, ci, e, hrd⟩
theorem tabN_le (u : Bu) : tabN u ≤ u.n := by unfold tabN; split <;> omega
def rF (rows : List (List Int)) (j k : Nat) : Int := (rows.getD j []).getD k 0
def rC (rows : List (List Int)) (j : Nat) : Nat := min (rows.getD j []).length 50
theorem step_none {s : St} (h : s.2.2.2 = 0) (c : Int) : stepS s c = (min c c, max c c, s.2.2.1 + c, s.2.2.2 + 1) := by
  unfold stepS
  rw [if_pos h, if_pos h]
theorem step_some {s : St} (h : ¬ s.2.2.2 = 0) (c : Int) : stepS s c = (min s.1 c, max s.2.1 c, s.2.2.1 + c, s.2.2.2 + 1) := by
  unfold stepS
  rw [if_neg h, if_neg h]
set_option maxHeartbeats 8000000 in
theorem walk_big {w : World} (u : Bu) (hu : BuOk w w.heap.size u) (A : Option Addr) (nT cT : Nat) (h20 : 20 < nT) (hT : zav w) :
    Calls Tryd.prog 4 #[.agg u.val.toArray, .slice A nT cT] w fun e w' => e = .returned (.bool true) ∧ Below w.heap.size w w' := by
  have HU := Lib.hid hu
  have HT := Lib.hid hT
  have HB0 := Lib.hid ((Below.refl w.heap.size w).alloc (Nat.le_refl _) (.cells u.val.toArray 42))
  have HUA := Lib.hid (UAt.new u 42 w)
  have HSZ : Hid (w.heap.size < (w.alloc (.cells u.val.toArray 42)).heap.size) := Lib.hid (by simp)
  clear hu hT
  go_enter Tryd.func4, Tryd.ntmps4
  go_upto_region 1 with fail
  generalize w.alloc (.cells u.val.toArray 42) = W0 at HB0 HUA HSZ ⊢
  obtain ⟨c0, c1, c2, c3, c4⟩ := HUA.out
  have g1 : (nT : Int) > 20 := by omega
  clear h20
  go_wp2_with (first
    | (go_at_call 6
       refine (rfew31_to u _ ((HU.out.below HB0.out).more HB0.out.size)).mono ?_
       rintro e w1 ⟨b1, rfl, hfew, hb⟩
       have HFW : Hid (FewIs b1 (FewU u)) := Lib.hid hfew
       have HB1 := Lib.hid (HB0.out.trans (hb.mono HB0.out.size))
       have HU1 := Lib.hid (HUA.out.below HSZ.out hb)
       have HS1 := Lib.hid (Nat.lt_of_lt_of_le HSZ.out hb.size)
       clear hfew hb c0 c1 c2 c3 c4 HUA HSZ
       obtain ⟨c0, c1, c2, c3, c4⟩ := HU1.out
       rcases b1 with _ | _)
    | (go_at_call 7
       refine (known31 _ (HT.out.grown HB1.out)).mono ?_
       rintro e w9 ⟨rfl, hb9⟩))
  all_goals
    go_ret
    exact ⟨rfl, HB1.out.trans (hb9.mono HB1.out.size)⟩
set_option maxHeartbeats 32000000 in
theorem walk_ok {w : World} (u : Bu) (hu : BuOk w w.heap.size u) (A : Option Addr) (nT cT : Nat) (h20 : nT ≤ 20) (rows : List (List Int)) (hl : rows.length = nT) (hw : ∀ row ∈ rows, ∀ n ∈ row, (Lit.int .i32 n).wf = true) (hr : Kit.RowsAt w w.heap.size .i32 A rows) (hT : zav w) :
    Calls Tryd.prog 4 #[.agg u.val.toArray, .slice A nT cT] w fun e w' => e = .returned (.bool true) ∧ Below w.heap.size w w' := by
  have HRW := Lib.hid hr
  have HL := Lib.hid hl
  have hF : ∀ j k, I32 (rF rows j k) := fun j k => by
    unfold rF I32
    by_cases hj : j < rows.length
    · have e : rows.getD j [] = rows[j] := by rw [List.getD_eq_getElem?_getD, List.getElem?_eq_getElem hj]; rfl
      rw [e]
      by_cases hk : k < rows[j].length
      · have e2 : rows[j].getD k 0 = rows[j][k] := by rw [List.getD_eq_getElem?_getD, List.getElem?_eq_getElem hk]; rfl
        rw [e2]
        simpa [Lit.wf, IntKind.min, IntKind.max, IntKind.signed, IntKind.bits] using hw _ (List.getElem_mem hj) _ (List.getElem_mem hk)
      · rw [List.getD_eq_getElem?_getD, List.getElem?_eq_none (Nat.le_of_not_lt hk)]; exact ⟨by decide, by decide⟩
    · rw [show rows.getD j [] = [] by rw [List.getD_eq_getElem?_getD, List.getElem?_eq_none (Nat.le_of_not_lt hj)]; rfl]
      simp
  have hC : ∀ j, rC rows j ≤ 50 := fun j => by unfold rC; omega
  have hN := tabN_le u
  have HF := Lib.hid hF
  have HC := Lib.hid hC
  have CT : Hid (FewU u → ∀ wx, Below w.heap.size w wx → Calls Tryd.prog 13 #[.agg u.val.toArray] wx (TabV u wx)) := Lib.hid (fun hf wx hb => (ctable_to u wx (hT.grown hb) ((hu.below hb).more hb.size) hf).mono fun _ _ h => tab_view h)
  have CR : Hid (FewU u → ∀ wx, Below w.heap.size w wx → Calls Tryd.prog 14 #[.agg u.val.toArray] wx (TabV u wx)) := Lib.hid (fun hf wx hb => (rtable_to u wx ((hu.below hb).more hb.size) hf).mono fun _ _ h => tab_view h)
  unfold TabV at CT CR
  obtain ⟨m, hm⟩ : ∃ m, tabN u = m := ⟨_, rfl⟩
  rw [hm] at hN CT CR
  generalize buS u u.n = z at CT CR
  have HN := Lib.hid hN
  obtain ⟨i0, hi0, hi1, hi2, hi3⟩ := info_parts info_rows
  obtain ⟨i1, hj0, hj1, hj2, hj3⟩ := info_parts info_int8c
  clear hr hl hw hF hC hN hm
  have HU := Lib.hid hu
  have HT := Lib.hid hT
  have HB0 := Lib.hid ((Below.refl w.heap.size w).alloc (Nat.le_refl _) (.cells u.val.toArray 42))
  have HUA := Lib.hid (UAt.new u 42 w)
  have HSZ : Hid (w.heap.size < (w.alloc (.cells u.val.toArray 42)).heap.size) := Lib.hid (by simp)
  clear hu hT
  go_enter Tryd.func4, Tryd.ntmps4
  go_upto_region 1 with fail
  generalize w.alloc (.cells u.val.toArray 42) = W0 at HB0 HUA HSZ ⊢
  obtain ⟨c0, c1, c2, c3, c4⟩ := HUA.out
  have g1 : ¬ (nT : Int) > 20 := by omega
  have H20 := Lib.hid h20
  go_upto_region 8 with (first
    | (go_at_call 6
       refine (rfew31_to u _ ((HU.out.below HB0.out).more HB0.out.size)).mono ?_
       rintro e w1 ⟨b1, rfl, hfew, hb⟩
       have HFW : Hid (FewIs b1 (FewU u)) := Lib.hid hfew
       have HB1 := Lib.hid (HB0.out.trans (hb.mono HB0.out.size))
       have HU1 := Lib.hid (HUA.out.below HSZ.out hb)
       have HS1 := Lib.hid (Nat.lt_of_lt_of_le HSZ.out hb.size)
       clear hfew hb c0 c1 c2 c3 c4 HUA HSZ
       obtain ⟨c0, c1, c2, c3, c4⟩ := HU1.out
       rcases b1 with _ | _)
    | (go_at_call 7
       refine (known31 _ (HT.out.grown HB1.out)).mono ?_
       rintro e w9 ⟨rfl, hb9⟩)
    | (go_at_call 13
       refine (CT.out (HFW.out rfl) _ HB1.out).mono ?_
       rintro e w2 ⟨A2, c2', V2, rfl, hr2, hv2, hb⟩
       have HR2 := Lib.hid hr2
       have HV2 := Lib.hid hv2
       have HB2 := Lib.hid (HB1.out.trans (hb.mono HB1.out.size))
       have HU2 := Lib.hid (HU1.out.below HS1.out hb)
       clear hr2 hv2 hb c0 c1 c2 c3 c4
       obtain ⟨c0, c1, c2, c3, c4⟩ := HU2.out)
    | (go_at_call 14
       refine (CR.out (HFW.out rfl) _ HB2.out).mono ?_
       rintro e w3 ⟨A3, c3', V3, rfl, hr3, hv3, hb⟩
       have HR3 := Lib.hid hr3
       have HV3 := Lib.hid hv3
       have HB3 := Lib.hid (HB2.out.trans (hb.mono HB2.out.size))
       have HR2' := Lib.hid ((HR2.out.below hb).more hb.size)
       have HV2' : Hid (∀ i, i < m → ∃ Ai ci, V2 i = .slice Ai (u.M i).n ci ∧ Kit.Rd w3 w3.heap.size Ai (rowI (bcZ (u.M i) (mdT0 u) u.cl) (u.M i).n)) := Lib.hid (fun i hi => by obtain ⟨Ai, ci, e, h⟩ := HV2.out i hi; exact ⟨Ai, ci, e, (h.below hb).more hb.size⟩)
       clear hr3 hv3 hb c0 c1 c2 c3 c4))
  · go_ret
    exact ⟨rfl, HB1.out.trans (hb9.mono HB1.out.size)⟩
  · clear HR2 HV2 CT CR HB0 HB1 HB2 HU1 HU2 HS1
    go_wp2_with fail
    go_loopw [9] (fun s wr => ∃ i : Nat, i ≤ m ∧ s = .int .i64 i ∧ Hid (Below w3.heap.size w3 wr)) (fun s _ => m - (intOf s).toNat)
    case atStart => exact ⟨0, Nat.zero_le _, rfl, Lib.hid (Below.refl _ _)⟩
    case round =>
      obtain ⟨i, hi, rfl, HW⟩ := hrel
      have HUN := Lib.hid (HFW.out rfl).1
      by_cases hlt : i < m
      · obtain ⟨A5, c5, hv5, hr5⟩ := HV2'.out i hlt
        obtain ⟨A6, c6, hv6, hr6⟩ := HV3.out i hlt
        obtain ⟨b2, o2, rfl, x2, h2⟩ := HR2'.out.plain (by rw [vL_len]; omega)
        obtain ⟨b3, o3, rfl, x3, h3⟩ := HR3.out.plain (by rw [vL_len]; omega)
        obtain ⟨d, hd⟩ : ∃ d, (u.M i).n = d := ⟨_, rfl⟩
        have hd8 : d ≤ 8 := by rw [← hd]; exact ((HFW.out rfl).2 i (by have := HN.out; omega)).1
        obtain ⟨FB, hFB⟩ : ∃ FB, bcZ (u.M i) (mdT0 u) u.cl = FB := ⟨_, rfl⟩
        rw [hd] at hv5 hv6 hr5 hr6
        rw [hFB] at hr5 hr6
        have r2 := h2 i _ (vL_at V2 hlt)
        have r3 := h3 i _ (vL_at V3 hlt)
        rw [hv5] at r2
        rw [hv6] at r3
        have ib : (0 : Int) ≤ (i : Int) := by omega
        have ic : (i : Int) < (m : Int) := by omega
        have HD8 := Lib.hid hd8
        have HR5 := Lib.hid ((hr5.below HW.out).more HW.out.size)
        have HR6 := Lib.hid ((hr6.below HW.out).more HW.out.size)
        have HC5 : Hid (∀ wS, Below wr.heap.size wr wS → wS.cell? ⟨b2, o2 + i, none⟩ = some (.slice A5 d c5)) := Lib.hid (fun wS h => ((HW.out.trans (h.mono HW.out.size)).cell (p := ⟨b2, o2 + i, none⟩) x2).trans r2)
        have HC6 : Hid (∀ wS, Below wr.heap.size wr wS → wS.cell? ⟨b3, o3 + i, none⟩ = some (.slice A6 d c6)) := Lib.hid (fun wS h => ((HW.out.trans (h.mono HW.out.size)).cell (p := ⟨b3, o3 + i, none⟩) x3).trans r3)
        have im : (i : Int) ≤ 4 := by have := HN.out; have := HUN.out; omega
        clear hv5 hv6 hr5 hr6 x2 x3 h2 h3 r2 r3 hd hd8 hFB
        go_upto_region 10 with fail
        refine wp_region_held_drew (S := fun wx => Below wr.heap.size wr wx) (by kernel_rfl) (Below.refl _ _).drew (fun hHeld => ?_)
        generalize wr.drew = W1 at hHeld ⊢
        refine Tk.x 0 rfl ?_
        try simp only [Tk.put]
        refine Tk.x 1 rfl ?_
        try simp only [Tk.put]
        refine Tk.x 2 rfl ?_
        try simp only [Tk.put]
        refine Tk.y 3 (v := .slice A5 d c5) rfl ?_ ?_
        · intro wS hSw
          have q := HC5.out wS hSw
          first | (go_simp; done) | (go_simp; with_reducible rfl)
        try simp only [Tk.put]
        refine Tk.x 4 rfl ?_
        try simp only [Tk.put]
        refine Tk.x 5 rfl ?_
        try simp only [Tk.put]
        refine Tk.x 6 rfl ?_
        try simp only [Tk.put]
        refine Tk.y 7 (v := .slice A6 d c6) rfl ?_ ?_
        · intro wS hSw
          have q := HC6.out wS hSw
          first | (go_simp; done) | (go_simp; with_reducible rfl)
        try simp only [Tk.put]
        refine Tk.s 8 rfl (fun Kq hK => ?_)
        go_simp
        go_at_call 15
        refine (CGraph.isame_to FB d (by have := HD8.out; omega) A5 A6 c5 c6 _ ((HR5.out.below hHeld).more hHeld.size) ((HR6.out.below hHeld).more hHeld.size)).mono ?_
        rintro e W2 ⟨rfl, mq, rfl⟩
        have hS2 := Kit.below_drewN hHeld mq
        generalize W1.drewN mq = W2 at hS2 ⊢
        clear hHeld
        dsimp only
        refine hK.out _ _ hS2 (fun hHeld => ?_)
        clear hK Kq hS2
        try simp only [Tk.put]
        refine Tk.y 9 (v := .bool false) rfl ?_ ?_
        · intro wS hSw
          first | (go_simp; done) | (go_simp; with_reducible rfl)
        try simp only [Tk.put]
        refine wpAnyH_done (by kernel_rfl) ?_ _
        go_wp2_with fail
        go_roundw
        case rel => exact ⟨i + 1, by omega, by go_num, Lib.hid (HW.out.trans (hHeld.mono HW.out.size))⟩
        case measure => simp [intOf]; omega
      · obtain rfl : i = m := by omega
        have HB4 := Lib.hid (HB3.out.trans (HW.out.mono HB3.out.size))
        clear HR2' HV2' HR3 HV3 HW HB3
        obtain ⟨W4, hW4⟩ : ∃ W4, W4 = wr := ⟨_, rfl⟩
        subst hW4
        go_wp2_with fail
        go_loopw [10, 11, 12, 13, 14, 15] (fun v x11 x12 x13 x14 x15 wr => ∃ i : Nat, i ≤ nT ∧ x15 = .int .i64 i ∧ x11 = .int .i64 (tabS (rF rows) (rC rows) i).1 ∧ x12 = .int .i64 (tabS (rF rows) (rC rows) i).2.1 ∧ x13 = .int .i64 (tabS (rF rows) (rC rows) i).2.2.1 ∧ x14 = .int .i64 ((tabS (rF rows) (rC rows) i).2.2.2 : Nat) ∧ (∃ V : Nat → Value, Hid (wr.ownsRow W4.heap.size 60 1 v i (vL V i)) ∧ Hid (∀ j, j < i → wr.ownsRow W4.heap.size 3 1 (V j) (rC rows j) (rowI (rF rows j) (rC rows j)))) ∧ Hid (Below W4.heap.size W4 wr)) (fun _ _ _ _ _ x _ => nT - (intOf x).toNat)
        case atStart => exact ⟨0, Nat.zero_le _, rfl, rfl, rfl, rfl, rfl, ⟨fun _ => undef, Lib.hid (World.ownsRow_nil _ _ _ _), Lib.hid (fun j hj => by omega)⟩, Lib.hid (Below.refl _ _)⟩
        case round =>
          obtain ⟨i, hi, rfl, rfl, rfl, rfl, rfl, ⟨V, HOT, HRO⟩, HX⟩ := hrel
          obtain ⟨wo, hwo⟩ : ∃ wo, wo = wr := ⟨_, rfl⟩
          subst hwo
          by_cases hlt : i < nT
          · have hir : i < rows.length := by have := HL.out; omega
            obtain ⟨bb, ob, Ai, ni, ci, rfl, hbb, hcc, hni, -, -, hrd⟩ := (HRW.out.below (HB4.out.trans (HX.out.mono HB4.out.size))).row hir
            have i0' : (0 : Int) ≤ (i : Int) := by omega
            have i1' : (i : Int) < (nT : Int) := by omega
            have i20 : (i : Int) ≤ 20 := by have := H20.out; omega
            obtain ⟨row, hrow⟩ : ∃ row, rows[i] = row := ⟨_, rfl⟩
            rw [hrow] at hni hrd
            have hgd : rows.getD i [] = row := by rw [List.getD_eq_getElem?_getD, List.getElem?_eq_getElem hir]; exact hrow
            have hcn : rC rows i = min ni 50 := by unfold rC; rw [hgd, hni]
            have HCN := Lib.hid hcn
            have hrF : ∀ k (hk : k < row.length), rF rows i k = row[k] := fun k hk => by unfold rF; rw [hgd, List.getD_eq_getElem?_getD, List.getElem?_eq_getElem hk]; rfl
            have HRF := Lib.hid hrF
            have HNI := Lib.hid hni
            have HRDW := Lib.hid hrd
            have HOKI : Hid (∀ k, k ≤ rC rows i → StOk (rowS (rF rows i) (tabS (rF rows) (rC rows) i) k) (50 * i + k)) := Lib.hid (fun k hk => (StOk.tab (F := rF rows) (cn := rC rows) i (fun j hj => HC.out j) (fun j q hj hq => HF.out j q)).row k (fun j hj => HF.out i j))
            have HCW : Hid (∀ wS, Below wo.heap.size wo wS → wS.cell? ⟨bb, ob + i, none⟩ = some (.slice Ai ni ci)) := Lib.hid (fun wS h => (h.cell (p := ⟨bb, ob + i, none⟩) (by show bb < wo.heap.size; have := HB4.out.size; have := HX.out.size; omega)).trans hcc)
            clear hrow hgd hni hrd hcn hrF hbb hcc hir
            go_wp2_with fail
            go_loopw [11, 12, 13, 14, 16, 17] (fun x11 x12 x13 x14 v16 x17 wi => ∃ k : Nat, k ≤ rC rows i ∧ x17 = .int .i64 k ∧ x11 = .int .i64 (rowS (rF rows i) (tabS (rF rows) (rC rows) i) k).1 ∧ x12 = .int .i64 (rowS (rF rows i) (tabS (rF rows) (rC rows) i) k).2.1 ∧ x13 = .int .i64 (rowS (rF rows i) (tabS (rF rows) (rC rows) i) k).2.2.1 ∧ x14 = .int .i64 ((rowS (rF rows i) (tabS (rF rows) (rC rows) i) k).2.2.2 : Nat) ∧ Hid (wi.ownsRow wo.heap.size 3 1 v16 k (rowI (rF rows i) k)) ∧ Hid (Below wo.heap.size wo wi)) (fun _ _ _ _ _ x _ => rC rows i - (intOf x).toNat)
            case atStart => exact ⟨0, Nat.zero_le _, rfl, rfl, rfl, rfl, rfl, Lib.hid (World.ownsRow_nil _ _ _ _), Lib.hid (Below.refl _ _)⟩
            case round =>
              obtain ⟨k, hk, rfl, rfl, rfl, rfl, rfl, HO, HI⟩ := hrel
              have c9 := HCW.out _ HI.out
              have k50 : k ≤ 50 := by have := HC.out i; omega
              by_cases hlk : k < rC rows i
              · have hkn : k < ni := by have := HCN.out; omega
                have hkn' : (k : Int) < (ni : Int) := by omega
                have hk5 : (k : Int) < 50 := by have := HCN.out; omega
                have hkr : k < row.length := by have := HNI.out; omega
                have k0 : (0 : Int) ≤ (k : Int) := by omega
                have hI := HF.out i k
                obtain ⟨b5, o5, rfl, hb5, c5⟩ := HRDW.out.ints hkr
                have c6 := (HI.out.cell (p := ⟨b5, o5 + k, none⟩) (by have := HB4.out.size; have := HX.out.size; show b5 < wo.heap.size; omega)).trans c5
                rw [← HRF.out k hkr] at c6
                have hs1 := (HOKI.out k (by omega)).oks
                have hs2 := (HOKI.out k (by omega)).okq
                have HNX : Hid (rowS (rF rows i) (tabS (rF rows) (rC rows) i) (k + 1) = stepS (rowS (rF rows i) (tabS (rF rows) (rC rows) i) k) (rF rows i k)) := Lib.hid rfl
                obtain ⟨s, hs⟩ : ∃ s, rowS (rF rows i) (tabS (rF rows) (rC rows) i) k = s := ⟨_, rfl⟩
                obtain ⟨cv, hcv⟩ : ∃ cv, rF rows i k = cv := ⟨_, rfl⟩
                rw [hs] at hs1 hs2 HNX ⊢
                rw [hcv] at hI c6 HNX
                have HCV := Lib.hid hcv
                obtain ⟨a1, a2, a3, a4⟩ := s
                dsimp only at hs1 hs2 ⊢
                unfold I32 at hI
                have hwc : IntKind.i64.wrap cv = cv := IntWalk.i64_in _ (by omega)
                have hws : IntKind.i64.wrap (a3 + cv) = a3 + cv := IntWalk.i64_in _ (by omega)
                have hwq : IntKind.i64.wrap ((a4 : Int) + 1) = (a4 : Int) + 1 := IntWalk.i64_in _ (by omega)
                clear hs hcv c5 hb5 hs1 hs2
                by_cases hq : a4 = 0
                · skip
                  have hz : a4 = 0 := hq
                  subst hz
                  have HE9 := Lib.hid (HNX.out.trans (step_none rfl cv))
                  clear HNX
                  go_wp2_with (at_builtin; refine Kit.zaq _ rfl (.tmp 94) (.tmp 96) _ rfl wo.heap.size 3 i1 (.int .i64 0) 1 8 Tryd.underlying60 hj0 hj1 hj2 hj3 rfl (by decide) _ k (rowI (rF rows i) k) rfl (HO.out.alloc _) _ _ 1 1 [.int .i64 cv] rfl rfl (Kit.Rd.new _ _ _ (Nat.lt_succ_self _)) (Kit.zbs .i64 [cv]) (by unfold maxLen; omega) (by omega) (by have := HI.out.size; simp; omega) ?_; intro v5 w5 hown5 hg5 hat5; (have e5 : rowI (rF rows i) k ++ [.int .i64 cv] = rowI (rF rows i) (k + 1) := by rw [rowI_succ, HCV.out]); rw [e5] at hown5; (have HO5 := Lib.hid hown5); (have HB5 := Lib.hid ((HI.out.alloc HI.out.size (.cells #[.int .i64 cv] 3)).grown hg5 (by have := HI.out.size; simp; omega) (fun q hq => Kit.zan HO.out q hq))); clear hown5 hg5 hat5 e5)
                  go_roundw
                  case rel => exact ⟨k + 1, by omega, by go_num, by (try rw [HE9.out]) <;> simp, by (try rw [HE9.out]) <;> simp, by (try rw [HE9.out]) <;> simp [hws], by (try rw [HE9.out]) <;> go_num, HO5, HB5⟩
                  case measure => simp [intOf]; omega
                · skip
                  have hz : ¬ (a4 : Int) = 0 := by omega
                  have HE9 := Lib.hid (HNX.out.trans (step_some (s := (a1, a2, a3, a4)) hq cv))
                  clear HNX
                  go_wp2_with (at_builtin; refine Kit.zaq _ rfl (.tmp 94) (.tmp 96) _ rfl wo.heap.size 3 i1 (.int .i64 0) 1 8 Tryd.underlying60 hj0 hj1 hj2 hj3 rfl (by decide) _ k (rowI (rF rows i) k) rfl (HO.out.alloc _) _ _ 1 1 [.int .i64 cv] rfl rfl (Kit.Rd.new _ _ _ (Nat.lt_succ_self _)) (Kit.zbs .i64 [cv]) (by unfold maxLen; omega) (by omega) (by have := HI.out.size; simp; omega) ?_; intro v5 w5 hown5 hg5 hat5; (have e5 : rowI (rF rows i) k ++ [.int .i64 cv] = rowI (rF rows i) (k + 1) := by rw [rowI_succ, HCV.out]); rw [e5] at hown5; (have HO5 := Lib.hid hown5); (have HB5 := Lib.hid ((HI.out.alloc HI.out.size (.cells #[.int .i64 cv] 3)).grown hg5 (by have := HI.out.size; simp; omega) (fun q hq => Kit.zan HO.out q hq))); clear hown5 hg5 hat5 e5)
                  go_roundw
                  case rel => exact ⟨k + 1, by omega, by go_num, by (try rw [HE9.out]) <;> simp, by (try rw [HE9.out]) <;> simp, by (try rw [HE9.out]) <;> simp [hws], by (try rw [HE9.out]) <;> go_num, HO5, HB5⟩
                  case measure => simp [intOf]; omega
              · skip
                have HK9 : Hid (rC rows i = k) := Lib.hid (by omega)
                obtain ⟨A6, c6, rfl, -, -, -⟩ := Kit.zbw HO.out
                have HOTi := Lib.hid (Kit.own_below HOT.out HI.out)
                have HRSi : Hid (∀ j, j < i → wr.ownsRow W4.heap.size 3 1 (V j) (rC rows j) (rowI (rF rows j) (rC rows j))) := Lib.hid (fun j hj => Kit.own_below (HRO.out j hj) HI.out)
                have HOVi := Lib.hid (Kit.own_base HO.out HX.out.size)
                have HBWi := Lib.hid (HX.out.trans (HI.out.mono HX.out.size))
                have HTS : Hid (tabS (rF rows) (rC rows) (i + 1) = rowS (rF rows i) (tabS (rF rows) (rC rows) i) k) := Lib.hid (by rw [tabS, HK9.out])
                clear HOT HRO HO HX HI
                generalize hs : rowS (rF rows i) (tabS (rF rows) (rC rows) i) k = s at HTS
                by_cases hnn : k < ni
                · have h50 : ¬ (k : Int) < 50 := by have := HCN.out; have := HK9.out; omega
                  have hni9 : (k : Int) < (ni : Int) := by omega
                  go_wp2_with (at_builtin; refine Kit.zaq _ rfl (.tmp 113) (.tmp 115) _ rfl W4.heap.size 60 i0 (.slice none 0 0) 1 24 Tryd.underlying54 hi0 hi1 hi2 hi3 rfl (by decide) _ i (vL V i) rfl (HOTi.out.alloc _) _ _ 1 1 [.slice A6 k c6] rfl rfl (Kit.Rd.new _ _ _ (Nat.lt_succ_self _)) (one_cell HOVi.out) (by have := H20.out; unfold maxLen; omega) (by have := H20.out; omega) (by have := HBWi.out.size; simp; omega) ?_; intro v5 w5 hown5 hg5 hat5; (have hg6 := hg5); (have HO5 := Lib.hid hown5); (have HV5 := Lib.hid ((HOVi.out.alloc (.cells #[.slice A6 k c6] 60)).kept hg5 (zbp HOVi.out HOTi.out (by decide)))); (have HR5 : Hid (∀ j, j < i → w5.ownsRow W4.heap.size 3 1 (V j) (rC rows j) (rowI (rF rows j) (rC rows j))) := Lib.hid (fun j hj => ((HRSi.out j hj).alloc (.cells #[.slice A6 k c6] 60)).kept hg5 (zbp (HRSi.out j hj) HOTi.out (by decide)))); (have HB5 := Lib.hid ((HBWi.out.alloc HBWi.out.size (.cells #[.slice A6 k c6] 60)).grown hg5 (by have := HBWi.out.size; simp; omega) (fun q hq => Kit.zan HOTi.out q hq))); clear hown5 hg5 hat5 hg6)
                  go_roundw
                  case rel => exact ⟨i + 1, by omega, by go_num, by rw [HTS.out], by rw [HTS.out], by rw [HTS.out], by rw [HTS.out], ⟨fun j => if j = i then .slice A6 k c6 else V j, Lib.hid (by rw [vL_succ, vL_congr (V := fun j => if j = i then .slice A6 k c6 else V j) (U := V) (fun q hq => if_neg (by omega)), if_pos rfl]; exact HO5.out), Lib.hid (fun j hj => by
                    by_cases hji : j = i
                    · subst hji
                      dsimp only
                      rw [if_pos rfl, HK9.out]
                      exact HV5.out
                    · dsimp only; rw [if_neg hji]; exact HR5.out j (by omega))⟩, HB5⟩
                  case measure => simp [intOf]; omega
                · have hni9 : ¬ (k : Int) < (ni : Int) := by omega
                  go_wp2_with (at_builtin; refine Kit.zaq _ rfl (.tmp 113) (.tmp 115) _ rfl W4.heap.size 60 i0 (.slice none 0 0) 1 24 Tryd.underlying54 hi0 hi1 hi2 hi3 rfl (by decide) _ i (vL V i) rfl (HOTi.out.alloc _) _ _ 1 1 [.slice A6 k c6] rfl rfl (Kit.Rd.new _ _ _ (Nat.lt_succ_self _)) (one_cell HOVi.out) (by have := H20.out; unfold maxLen; omega) (by have := H20.out; omega) (by have := HBWi.out.size; simp; omega) ?_; intro v5 w5 hown5 hg5 hat5; (have hg6 := hg5); (have HO5 := Lib.hid hown5); (have HV5 := Lib.hid ((HOVi.out.alloc (.cells #[.slice A6 k c6] 60)).kept hg5 (zbp HOVi.out HOTi.out (by decide)))); (have HR5 : Hid (∀ j, j < i → w5.ownsRow W4.heap.size 3 1 (V j) (rC rows j) (rowI (rF rows j) (rC rows j))) := Lib.hid (fun j hj => ((HRSi.out j hj).alloc (.cells #[.slice A6 k c6] 60)).kept hg5 (zbp (HRSi.out j hj) HOTi.out (by decide)))); (have HB5 := Lib.hid ((HBWi.out.alloc HBWi.out.size (.cells #[.slice A6 k c6] 60)).grown hg5 (by have := HBWi.out.size; simp; omega) (fun q hq => Kit.zan HOTi.out q hq))); clear hown5 hg5 hat5 hg6)
                  go_roundw
                  case rel => exact ⟨i + 1, by omega, by go_num, by rw [HTS.out], by rw [HTS.out], by rw [HTS.out], by rw [HTS.out], ⟨fun j => if j = i then .slice A6 k c6 else V j, Lib.hid (by rw [vL_succ, vL_congr (V := fun j => if j = i then .slice A6 k c6 else V j) (U := V) (fun q hq => if_neg (by omega)), if_pos rfl]; exact HO5.out), Lib.hid (fun j hj => by
                    by_cases hji : j = i
                    · subst hji
                      dsimp only
                      rw [if_pos rfl, HK9.out]
                      exact HV5.out
                    · dsimp only; rw [if_neg hji]; exact HR5.out j (by omega))⟩, HB5⟩
                  case measure => simp [intOf]; omega
          · obtain rfl : i = nT := by omega
            obtain ⟨A9, c9, rfl, -, -, hrd⟩ := Kit.zbw HOT.out
            have HR9 := Lib.hid hrd
            have HV9 : Hid (∀ j, j < i → ∃ Aj cj, V j = .slice Aj (rC rows j) cj ∧ Kit.Rd wo wo.heap.size Aj (rowI (rF rows j) (rC rows j))) := Lib.hid (fun j hj => by obtain ⟨Aj, cj, e, -, -, h⟩ := Kit.zbw (HRO.out j hj); exact ⟨Aj, cj, e, h⟩)
            have HB5 := Lib.hid (HB4.out.trans (HX.out.mono HB4.out.size))
            have CE := Lib.hid (cends_to (rF rows) (rC rows) i c9 H20.out (fun j _ => HC.out j) (fun j k _ _ => HF.out j k) V A9 wo HR9.out HV9.out)
            clear hrd HOT HRO HX HB4 HR9 HV9
            obtain ⟨t, ht⟩ : ∃ t, tabS (rF rows) (rC rows) i = t := ⟨_, rfl⟩
            rw [ht] at CE ⊢
            obtain ⟨t1, t2, t3, t4⟩ := t
            dsimp only at CE ⊢
            clear ht
            go_wp2_with (first
              | (go_at_call 16
                 refine CE.out.mono ?_
                 rintro e w6 ⟨rfl, hb⟩
                 have HB6 := Lib.hid (HB5.out.trans (hb.mono HB5.out.size))
                 clear hb)
              | (go_at_call 7
                 refine (known31 _ (HT.out.grown HB6.out)).mono ?_
                 rintro e w9 ⟨rfl, hb9⟩))
            go_ret
            exact ⟨rfl, HB6.out.trans (hb9.mono HB6.out.size)⟩
theorem walk {w : World} (u : Bu) (hu : BuOk w w.heap.size u) (A : Option Addr) (rows : List (List Int)) (n c : Nat) (hl : rows.length = n) (hc : n ≤ c) (hm : c ≤ maxLen) (hw : ∀ row ∈ rows, ∀ n ∈ row, (Lit.int .i32 n).wf = true) (hr : Kit.RowsAt w w.heap.size .i32 A rows) (hT : zav w) :
    Calls Tryd.prog 4 #[.agg u.val.toArray, .slice A n c] w fun e w' => e = .returned (.bool true) ∧ Below w.heap.size w w' := by
  by_cases h : n ≤ 20
  · exact walk_ok u hu A n c h rows hl hw hr hT
  · exact walk_big u hu A n c (by omega) hT
/-! ### the frame: written by program -/
theorem own : ownKnob Tryd.prog.godebug = none := by kernel_rfl
theorem laid : laidOutB Tryd.prog = true := by kernel_rfl
theorem contract {H : Type} {enc : TypeId × Value → H} {W : World} {base : Nat} {args : Array Value} {ds gs : List (DataW H)} {before : List MemPlace}
    (hval0 : ∀ (j : Nat) t v, Tryd.f4.params[j]? = some t → args[j]? = some v → Value.okWide Tryd.prog W .any base t v)
    (hW : DataW.Whole enc Tryd.prog Tryd.f4.params.toList Rows.costTablesSpec.vars false W args.toList ds gs before)
    (hL : laidMetH Tryd.prog [("stepwell/kinds.names", Rows.laid_stepwell_kinds_names)] W) :
    Calls Tryd.prog 4 args W fun e W' => e = .returned (.bool true) ∧ Below W.heap.size W W' := by
  have hval : ∀ (j : Nat) t v, Tryd.f4.params[j]? = some t → args[j]? = some v → Value.okWide Tryd.prog W .any base t v := hval0
  obtain ⟨p, q, hA0, hV, rfl, hfz, hnd⟩ := hW
  have hA : DataW.TrodAll enc Tryd.prog W 0 (fun _ => true) true Tryd.f4.params.toList args.toList ds p := hA0
  rw [Tryd.params4] at hA hval
  obtain ⟨v0, vs0, d0, ds0, p0, q0, hargs, rfl, rfl, h0, r0⟩ := trodAll_cons hA
  obtain ⟨v1, vs1, d1, ds1, p1, q1, rfl, rfl, rfl, h1, r1⟩ := trodAll_cons r0
  obtain ⟨rfl, rfl, rfl⟩ := trodAll_nil r1
  obtain rfl : args = #[v0, v1] := by cases args; simp_all
  clear hA0 hval0
  obtain ⟨u0, rfl, hu0⟩ := CBund.open_bundle (hval 0 42 v0 rfl rfl) h0
  obtain ⟨A1, R1, n1, c1, rfl, hl1, hc1, hm1, hw1, hr1⟩ := Kit.open_irows Tryd.underlying53 Tryd.underlying24 Tryd.underlying21 (by kernel_rfl) (by kernel_rfl) (hval 1 53 v1 rfl rfl) h1
  exact walk (w := W) u0 hu0 A1 R1 n1 c1 hl1 hc1 hm1 hw1 hr1 (of_laid hL)
theorem fnIs {H : Type} : ∀ ds : List (DataW H), ds.length = Tryd.f4.params.toList.length → Rows.costTablesSpec.fn H ds = { results := [.lit (.bool true)], args := ds } := by
  intro ds h
  rw [Tryd.params4] at h
  match ds, h with
  | [d1, d2], _ => rfl
theorem door_met (os : Os) (args : Array Value) : laidMetH Tryd.prog [("stepwell/kinds.names", Rows.laid_stepwell_kinds_names)] ((World.doorLaid Tryd.prog 400 os).forCall (fun _ _ => 0) ⟨#[], args, []⟩).memory :=
  laidMetH_of_parts3 (fuel := 8) (laidMet_of_run' 8 (by kernel_rfl) (by kernel_rfl)) (by kernel_rfl) (by kernel_rfl)
set_option maxRecDepth 100000 in
theorem lifted (os : Os) (started : os.Started) (H : Type) (enc : TypeId × Value → H) :
    ReturnsInHanded {} Tryd.checked os 4 .any (fun w args => (Rows.costTablesSpec.pre enc Tryd.prog Tryd.f4 [] false w args ∧ laidMetH Tryd.prog [("stepwell/kinds.names", Rows.laid_stepwell_kinds_names)] w) ∧ sizedMet enc Tryd.prog Tryd.f4 (OpenSpec.ofChange Rows.costTablesSpec) false w args) (Rows.costTablesSpec.post enc Tryd.prog Tryd.f4 false true false false) := by
  refine returnsInHanded_of_change_and (C := Tryd.checked) (X := fun w _ => laidMetH Tryd.prog [("stepwell/kinds.names", Rows.laid_stepwell_kinds_names)] w) (fun _ _ _ hh h => h.of_heap hh) own started (by kernel_rfl) Tryd.func4
    (ChangeSpec.witness_shaped (enc := enc) (C := Tryd.checked) (os := os) (X := fun w _ => laidMetH Tryd.prog [("stepwell/kinds.names", Rows.laid_stepwell_kinds_names)] w) false (World.doorLaid Tryd.prog 400 os) #[.agg #[.int .i64 0, .int .i64 0, .int .i64 0, .int .i64 0, .slice none 0 0], .slice none 0 0] 8 rfl (World.shaped_of_RefB (by kernel_rfl) (by kernel_rfl)) (by kernel_rfl) (by kernel_rfl) (by kernel_rfl) (door_met os _)) ?_
  intro W base args ds gs before hval hW _ _ hL _
  refine (contract hval hW hL).mono fun e W' ⟨he, hg⟩ => ?_
  subst he
  exact ⟨_, rfl, Kit.law_post (tb := 4) laid (by kernel_rfl) rfl (by kernel_rfl) Tryd.underlying4 fnIs hW hg⟩
theorem over : Rows.costTablesRow.holds Tryd.pinned (OpenSpec.ofChange Rows.costTablesSpec) :=
  OpenClaim.holds_of_wide 4 Tryd.f4 rfl rfl rfl rfl rfl rfl rfl ⟨rfl, rfl, rfl, rfl, rfl⟩ rfl rfl rfl rfl rfl (by kernel_rfl) Tryd.func4 (by kernel_rfl)
    (of_decide_eq_true (by kernel_rfl)) (by unfold Func.isWrapper; first | (rw [if_pos (by decide +kernel)]; kernel_rfl) | (rw [if_neg (by decide +kernel)]; exact ⟨rfl, rfl⟩))
    (fun os started H enc _ => lifted os started H enc)
/-- the statement: the tied card. -/
theorem proved : Rows.CostTablesCardSaid :=
  Claim7.holds_tied_plain_at .later [] [.data] true (true, "fcdad785783cefc6c1d75b195ccf91e91d8a240d4d9bedd1e158f0222e4bf5a2") false
    over (fun _ h => by cases h) (by kernel_rfl) (fun _ h => by cases h) costTables_row_tie rfl ⟨rfl, rfl⟩ (by kernel_rfl) rfl
    (fun f fn hf hfn => by
      obtain rfl : f = 4 := Option.some.inj ((show Tryd.prog.funcNamed "stepwell/stepwelllaw31.CostTables" = some 4 by kernel_rfl).symm.trans hf) |>.symm
      obtain rfl : fn = Tryd.f4 := (Option.some.inj (Tryd.func4.symm.trans hfn)).symm
      exact ⟨by kernel_rfl, fun j t ht => by
        rw [Tryd.params4] at ht
        have hm : t ∈ [42, 53] := by simpa using Array.mem_of_getElem? ht
        have hall : ([42, 53].all fun u => !Tryd.prog.wantsStandIn u) = true := by kernel_rfl
        exact (show Tryd.prog.wantsStandIn t = false by simpa using List.all_eq_true.1 hall t hm)⟩)
    (by kernel_rfl)
end Go.Proofs.YtjhlkmnpfibgaaaDoor.lawCostTables
