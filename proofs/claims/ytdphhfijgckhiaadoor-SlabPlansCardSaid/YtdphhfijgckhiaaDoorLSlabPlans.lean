/- Layer 29 (slab), SlabPlans: where each value of any nodes stands, how much room they need, or which node is wrong first, and why, are those of the document; the call returns true and leaves its arguments as they were. The names of the kinds are listed and tied to the program's text; no other condition. -/
import Derived.Test.YtdphhfijgckhiaaDoorTie
import Derived.Test.YtdphhfijgckhiaaDoorCards
import Derived.Test.YtdphhfijgckhiaaDoorGP50
namespace Go.Proofs.YtdphhfijgckhiaaDoor.CConv
end Go.Proofs.YtdphhfijgckhiaaDoor.CConv
namespace Go.Proofs.YtdphhfijgckhiaaDoor.CTensor
end Go.Proofs.YtdphhfijgckhiaaDoor.CTensor
namespace Go.Proofs.YtdphhfijgckhiaaDoor.lawSlabPlans
open Go Go.ChangeShapes Go.WideShapes Go.ChangeAt Go.RowKit Go.Deep
open Plain CSat CFix CShape CTensor CConv CKind CGraph CSlab
set_option linter.unusedVariables false
set_option linter.unusedSimpArgs false
set_option maxRecDepth 100000
def FewIs (n : Nat) (b : Bool) : Prop := b = true → n ≤ 12
set_option maxRecDepth 100000 in
set_option maxHeartbeats 8000000 in
theorem walk_all {w : World} (X : Nat → Nd) (A : Option Addr) (n c : Nat) (hN : za4 w w.heap.size A n X) (hX : ∀ j, j < n → (X j).Small) (t0 : Tri) (hT : za0 w) :
    Calls Tryd.prog 3 #[.slice A n c, .agg #[.int .i64 t0.1, .int .i64 t0.2.1, .int .i64 t0.2.2]] w fun e w' => e = .returned (.bool true) ∧ Below w.heap.size w w' := by
  obtain ⟨q0, q1, q2⟩ := sh_cells t0 w
  have HB0 := Lib.hid ((Below.refl w.heap.size w).alloc (Nat.le_refl _) (.cells #[.int .i64 t0.1, .int .i64 t0.2.1, .int .i64 t0.2.2] 24))
  have hsz : w.heap.size < (w.alloc (.cells #[.int .i64 t0.1, .int .i64 t0.2.1, .int .i64 t0.2.2] 24)).heap.size := by simp
  have HSZ := Lib.hid hsz
  have HT := Lib.hid hT
  have HN := Lib.hid hN
  have HX := Lib.hid hX
  clear hT hN hX hsz
  go_enter Tryd.func3, Tryd.ntmps3
  go_upto_region 1 with fail
  generalize w.alloc (.cells #[.int .i64 t0.1, .int .i64 t0.2.1, .int .i64 t0.2.2] 24) = W0 at q0 q1 q2 HB0 HSZ ⊢
  have Q0 : Hid (∀ wx, Below (w.heap.size + 1) W0 wx → wx.cell? ⟨w.heap.size, 0, none⟩ = some (.int .i64 t0.1) ∧ wx.cell? ⟨w.heap.size, 1, none⟩ = some (.int .i64 t0.2.1) ∧ wx.cell? ⟨w.heap.size, 2, none⟩ = some (.int .i64 t0.2.2)) :=
    Lib.hid (fun wx h => ⟨(h.cell (p := ⟨w.heap.size, 0, none⟩) (Nat.lt_succ_self _)).trans q0, (h.cell (p := ⟨w.heap.size, 1, none⟩) (Nat.lt_succ_self _)).trans q1, (h.cell (p := ⟨w.heap.size, 2, none⟩) (Nat.lt_succ_self _)).trans q2⟩)
  clear q0 q1 q2
  have htwo := out_two X t0 n
  obtain ⟨L, hL⟩ : ∃ L, outL X t0 n = L := ⟨_, rfl⟩
  obtain ⟨m, hm⟩ : ∃ m, L.length = m := ⟨_, rfl⟩
  obtain ⟨p, hp⟩ : ∃ p, outP X t0 n = p := ⟨_, rfl⟩
  obtain ⟨z, hz⟩ : ∃ z, outZ X t0 n = z := ⟨_, rfl⟩
  obtain ⟨R, hR⟩ : ∃ R, outR X t0 n = R := ⟨_, rfl⟩
  rw [hL, hp, hz, hR, hm] at htwo
  have HTW := Lib.hid htwo
  have hof := fun (w : World) (hn : n ≤ 12) (hT : za0 w) (hA : za4 w w.heap.size A n X) => (of_to X t0 n c (by omega) A w hT HX.out hA).mono fun e w' h => of_view h
  rw [hL, hp, hz, hR, hm] at hof
  have COF := Lib.hid hof
  have hrs := fun (w : World) (hn : n ≤ 12) (hA : za4 w w.heap.size A n X) => (rshapes_to X t0 n c (by omega) A w hA).mono fun e w' h => shp_view h
  rw [hL, hp, hz, hm] at hrs
  have CRS := Lib.hid hrs
  have HM := Lib.hid hm
  clear hm hp hz hR hL htwo hof hrs HX
  go_upto_region 7 with (first
      | (go_at_call 5
         refine (few_to X n c A _ ((HN.out.below HB0.out).more HB0.out.size)).mono ?_
         rintro e w1 ⟨b, rfl, hfew, hb⟩
         have HFW : Hid (FewIs n b) := Lib.hid hfew
         have HB1 := Lib.hid (HB0.out.trans (hb.mono HB0.out.size))
         have HV1 := Lib.hid (hb.mono HSZ.out)
         clear hfew hb
         obtain ⟨g0, g1, g2⟩ := Q0.out _ HV1.out
         rcases b with _ | _)
      | (go_at_call 6
         refine (known29 _ (HT.out.below HB1.out HT.out.size)).mono ?_
         rintro e w9 ⟨rfl, hb9⟩)
      | (go_at_call 7
         refine (COF.out _ (HFW.out rfl) (HT.out.below HB1.out HT.out.size) ((HN.out.below HB1.out).more HB1.out.size)).mono ?_
         rintro e w2 ⟨A5, B5, c5, d5, rfl, hr5, hs5, hb⟩
         have HR5 := Lib.hid hr5
         have HS5 := Lib.hid hs5
         have HB2 := Lib.hid (HB1.out.trans (hb.mono HB1.out.size))
         have HV2 := Lib.hid (HV1.out.trans (hb.mono (Nat.le_trans HSZ.out HV1.out.size)))
         clear hr5 hs5 hb g0 g1 g2
         have ylt : w.heap.size < w2.heap.size := Nat.lt_of_lt_of_le HSZ.out HV2.out.size
         obtain ⟨g0, g1, g2⟩ := Q0.out _ HV2.out)
      | (go_at_call 8
         have hal := (Below.refl w2.heap.size w2).alloc (Nat.le_refl _) (.cells #[.slice A5 m c5, .slice B5 m d5, .int .i64 R] 33)
         refine (CRS.out _ (HFW.out rfl) ((HN.out.below (HB2.out.trans (hal.mono HB2.out.size))).more (HB2.out.trans (hal.mono HB2.out.size)).size)).mono ?_
         rintro e w3 ⟨A6, c6, rfl, hr6, hb⟩
         have hh := hal.trans (hb.mono hal.size)
         have HPL := Lib.hid ((planNew (.slice A5 m c5) (.slice B5 m d5) R 33 w2).below (B' := (w2.alloc (.cells #[.slice A5 m c5, .slice B5 m d5, .int .i64 R] 33)).heap.size) (by simp) hb)
         have HLT : Hid (w2.heap.size < w3.heap.size) := Lib.hid (Nat.lt_of_lt_of_le (by simp) hb.size)
         have HR6 := Lib.hid hr6
         have HB3 := Lib.hid (HB2.out.trans (hh.mono HB2.out.size))
         replace HR5 := Lib.hid ((HR5.out.below hh).more hh.size)
         replace HS5 := Lib.hid ((HS5.out.below hh).more hh.size)
         clear hr6 hb hh hal g0 g1 g2
         obtain ⟨p0, p1, p2⟩ := HPL.out))
  · go_ret
    exact ⟨rfl, HB1.out.trans (hb9.mono HB1.out.size)⟩
  · have hn : n ≤ 12 := HFW.out rfl
    clear HB1 HB2 HV1 HV2 Q0 HSZ HB0 COF CRS
    rcases HTW.out with ⟨hz, hm0, hR0⟩ | ⟨hz, ho, hl, hm1, hR1, hp1⟩
    · have hz1 : (z != 0) = true := by simpa using hz
      subst hm0 hR0
      clear hz
      go_wp2_with (go_at_call 6; (refine (known29 _ (HT.out.below HB3.out HT.out.size)).mono ?_); rintro e w9 ⟨rfl, hb9⟩)
      go_ret
      exact ⟨rfl, HB3.out.trans (hb9.mono HB3.out.size)⟩
    · subst hz
      have HM1 := Lib.hid hm1
      have m13 : m ≤ 13 := by omega
      have HRM := Lib.hid hR1
      have HL := Lib.hid hl
      obtain ⟨i0, hi0, hi1, hi2, hi3⟩ := CGraph.info_parts info_int
      obtain ⟨S, hS⟩ : ∃ S, szF X t0 n = S := ⟨_, rfl⟩
      have HS := Lib.hid hS
      obtain ⟨U, hU⟩ : ∃ U, lastZ X n = U := ⟨_, rfl⟩
      have HU := Lib.hid hU
      clear HTW ho hl hm1 hR1 hp1 hS hU
      go_wp2_with fail
      go_loopw [11, 12, 13] (fun v1 v2 u wr => ∃ k : Nat, k ≤ m ∧ u = .int .i64 k ∧ Hid (wr.ownsRow w3.heap.size 3 1 v1 k (CArena.rowV S k)) ∧ Hid (wr.ownsRow w3.heap.size 3 1 v2 k (CArena.rowV U k)) ∧ Hid (Apart v1 v2) ∧ Hid (Below w3.heap.size w3 wr)) (fun _ _ u _ => m - (intOf u).toNat)
      case atStart => exact ⟨0, Nat.zero_le _, rfl, Lib.hid (by simpa [CArena.rowV] using World.ownsRow_nil _ _ _ _), Lib.hid (by simpa [CArena.rowV] using World.ownsRow_nil _ _ _ _), Lib.hid (fun g h => by simp [Value.ownBlock] at h), Lib.hid (Below.refl _ _)⟩
      case round =>
        obtain ⟨i, hi, rfl, HO1, HO2, HAP, HW⟩ := hrel
        obtain ⟨V1, k1, rfl, -, -, -⟩ := Kit.zbd HO1.out
        obtain ⟨V2, k2, rfl, -, -, -⟩ := Kit.zbd HO2.out
        clear p0 p1 p2
        have HPW := Lib.hid (HPL.out.below HLT.out HW.out)
        by_cases hlt : i < m
        · obtain ⟨a, ha, -⟩ := tvV_at (L := L) (k := i) HM.out hlt
          obtain ⟨b5, o5, rfl, x5, h5⟩ := tv_cells HR5.out (by have := HM.out; omega)
          obtain ⟨b6, o6, rfl, x6, h6⟩ := tv_cells HR6.out (by have := HM.out; omega)
          have r5 := h5 i a ha
          have r6 := h6 i a ha
          have hsa := szF_at (show (shL X t0 n)[i]? = some a by rw [← HL.out]; exact ha)
          rw [HS.out] at hsa
          have ib : (0 : Int) ≤ (i : Int) := by omega
          have i1 : (i : Int) < (m : Int) := by omega
          have HC1 : Hid (∀ wS, Below wr.heap.size wr wS → (wS.cell? ⟨b5, o5 + i * 3, none⟩ = some (.int .i64 a.1) ∧ wS.cell? ⟨b5, o5 + i * 3 + 1, none⟩ = some (.int .i64 a.2.1) ∧ wS.cell? ⟨b5, o5 + i * 3 + 2, none⟩ = some (.int .i64 a.2.2))) :=
            Lib.hid (fun wS h => have hh := HW.out.trans (h.mono HW.out.size); ⟨(hh.cell (p := ⟨b5, o5 + i * 3, none⟩) x5).trans (r5 0 _ rfl), (hh.cell (p := ⟨b5, o5 + i * 3 + 1, none⟩) x5).trans (r5 1 _ rfl), (hh.cell (p := ⟨b5, o5 + i * 3 + 2, none⟩) x5).trans (r5 2 _ rfl)⟩)
          have HC2 : Hid (∀ wS, Below wr.heap.size wr wS → (wS.cell? ⟨b6, o6 + i * 3, none⟩ = some (.int .i64 a.1) ∧ wS.cell? ⟨b6, o6 + i * 3 + 1, none⟩ = some (.int .i64 a.2.1) ∧ wS.cell? ⟨b6, o6 + i * 3 + 2, none⟩ = some (.int .i64 a.2.2))) :=
            Lib.hid (fun wS h => have hh := HW.out.trans (h.mono HW.out.size); ⟨(hh.cell (p := ⟨b6, o6 + i * 3, none⟩) x6).trans (r6 0 _ rfl), (hh.cell (p := ⟨b6, o6 + i * 3 + 1, none⟩) x6).trans (r6 1 _ rfl), (hh.cell (p := ⟨b6, o6 + i * 3 + 2, none⟩) x6).trans (r6 2 _ rfl)⟩)
          have HC3 : Hid (∀ wS, Below wr.heap.size wr wS → wS.cell? ⟨w2.heap.size, 0, none⟩ = some (.slice (some ⟨b5, o5, none⟩) m c5)) :=
            Lib.hid (fun wS h => (h.cell (p := ⟨w2.heap.size, 0, none⟩) (Nat.lt_of_lt_of_le HLT.out HW.out.size)).trans HPW.out.1)
          have HQ := Lib.hid (CGraph.eqShape a.1 a.2.1 a.2.2 a.1 a.2.1 a.2.2)
          have HG := Lib.hid Tryd.eqGuardType24
          have CE := Lib.hid (fun wx : World => zaj a.1 a.2.1 a.2.2 (S i) hsa wx)
          have CR : Hid (∀ wS, Below w3.heap.size w3 wS → Calls Tryd.prog 10 #[.slice A n c, .int .i64 i] wS fun e w' => e = .returned (.int .i64 (U i)) ∧ Below wS.heap.size wS w') := by
            refine Lib.hid fun wS h => ?_
            have hh := HB3.out.trans (h.mono HB3.out.size)
            have := rlast_to X n c (by omega) i (by have := HM1.out; omega) A wS ((HN.out.below hh).more hh.size)
            rw [HU.out] at this; exact this
          clear ha h5 h6 r5 r6 x5 x6 hsa
          go_upto_region 13 with fail
          refine wp_region_held_drew (S := fun wx => Below wr.heap.size wr wx) (by kernel_rfl) (Below.refl _ _).drew (fun hHeld => ?_)
          generalize wr.drew = W1 at hHeld ⊢
          refine Tk.x 0 rfl ?_
          try simp only [Tk.put]
          refine Tk.y 1 (v := .slice (some ⟨b5, o5, none⟩) m c5) rfl ?_ ?_
          · intro wS hSw
            have q := HC3.out wS hSw
            first | (go_simp; done) | (go_simp; with_reducible rfl)
          try simp only [Tk.put]
          refine Tk.x 2 rfl ?_
          try simp only [Tk.put]
          refine Tk.x 3 rfl ?_
          try simp only [Tk.put]
          refine Tk.y 4 (v := .agg #[.int .i64 a.1, .int .i64 a.2.1, .int .i64 a.2.2]) rfl ?_ ?_
          · intro wS hSw
            obtain ⟨q0, q1, q2⟩ := HC1.out wS hSw
            first | (go_simp; done) | (go_simp; with_reducible rfl)
          try simp only [Tk.put]
          refine Tk.x 5 rfl ?_
          try simp only [Tk.put]
          refine Tk.x 6 rfl ?_
          try simp only [Tk.put]
          refine Tk.x 7 rfl ?_
          try simp only [Tk.put]
          refine Tk.y 8 (v := .agg #[.int .i64 a.1, .int .i64 a.2.1, .int .i64 a.2.2]) rfl ?_ ?_
          · intro wS hSw
            obtain ⟨q0, q1, q2⟩ := HC2.out wS hSw
            first | (go_simp; done) | (go_simp; with_reducible rfl)
          try simp only [Tk.put]
          refine Tk.y 9 (v := .bool false) rfl ?_ ?_
          · intro wS hSw
            have hq := HQ.out
            have hgd := HG.out
            first | (go_simp; done) | (go_simp; with_reducible rfl)
          try simp only [Tk.put]
          refine wpAnyH_done (by kernel_rfl) ?_ _
          have HH := Lib.hid hHeld
          obtain ⟨s0, s1, s2⟩ := HC2.out W1 hHeld
          have HP1 := Lib.hid (Kit.own_below HO1.out hHeld)
          have HP2 := Lib.hid (Kit.own_below HO2.out hHeld)
          have HW1 := Lib.hid (HW.out.trans (hHeld.mono HW.out.size))
          clear HO1 HO2 hHeld
          go_wp2_with (first
            | (go_at_call 9
               refine (CE.out _).mono ?_
               rintro e w4 ⟨rfl, hb4⟩
               have HW4 := Lib.hid (HW1.out.trans (hb4.mono HW1.out.size))
               have P1 := Lib.hid (Kit.own_below HP1.out hb4)
               have P2 := Lib.hid (Kit.own_below HP2.out hb4)
               clear hb4 s0 s1 s2)
            | (go_at_call 10
               refine (CR.out _ HW5.out).mono ?_
               rintro e w6 ⟨rfl, hb6⟩
               have HW6 := Lib.hid (HW5.out.trans (hb6.mono HW5.out.size))
               have P5 := Lib.hid (Kit.own_below P3.out hb6)
               have P6 := Lib.hid (Kit.own_below P4.out hb6)
               clear hb6)
            | (at_builtin
               refine Kit.zam _ rfl (.tmp 81) (.tmp 87) _ rfl w3.heap.size 3 i0 (.int .i64 0) 1 8 Tryd.underlying31 hi0 hi1 hi2 hi3 rfl (by decide) _ i (CArena.rowV S i) rfl (P1.out.alloc _) _ _ 1 1 [.int .i64 (S i)] rfl rfl (Kit.Rd.new _ _ _ (Nat.lt_succ_self _)) (Kit.zbg .i64 [S i]) (by unfold maxLen; omega) (by omega) (by have := HW4.out.size; simp; omega) ?_
               intro v5 w5 hown5 hg5 hat5
               have hB5 : Below w3.heap.size w3 w5 := (HW4.out.alloc HW4.out.size _).grown hg5 (by have := HW4.out.size; simp; omega) (fun q hq => Kit.zau P1.out q hq)
               rw [CArena.zbo S i (S i) rfl] at hown5
               have P3 := Lib.hid hown5
               have P4 := Lib.hid (apart_kept (P2.out.alloc _) HAP.out hg5)
               have AP2 := Lib.hid (apart_next (P2.out.alloc _) HAP.out hat5)
               have HW5 := Lib.hid hB5
               clear hown5 hg5 hat5 hB5)
            | (at_builtin
               refine Kit.zam _ rfl (.tmp 89) (.tmp 93) _ rfl w3.heap.size 3 i0 (.int .i64 0) 1 8 Tryd.underlying31 hi0 hi1 hi2 hi3 rfl (by decide) _ i (CArena.rowV U i) rfl (P6.out.alloc _) _ _ 1 1 [.int .i64 (U i)] rfl rfl (Kit.Rd.new _ _ _ (Nat.lt_succ_self _)) (Kit.zbg .i64 [U i]) (by unfold maxLen; omega) (by omega) (by have := HW6.out.size; simp; omega) ?_
               intro v7 w7 hown7 hg7 hat7
               have hB7 : Below w3.heap.size w3 w7 := (HW6.out.alloc HW6.out.size _).grown hg7 (by have := HW6.out.size; simp; omega) (fun q hq => Kit.zau P6.out q hq)
               rw [CArena.zbo U i (U i) rfl] at hown7
               have P8 := Lib.hid hown7
               have P7 := Lib.hid (apart_kept (P5.out.alloc _) AP2.out.symm hg7)
               have AP3 := Lib.hid (apart_next (P5.out.alloc _) AP2.out.symm hat7).symm
               have HW7 := Lib.hid hB7
               clear hown7 hg7 hat7 hB7))
          go_roundw
          case rel => exact ⟨i + 1, by omega, by go_num, P7, P8, AP3, HW7⟩
          case measure => simp [intOf]; omega
        · obtain rfl : i = m := by omega
          have hSb : ∀ k, 0 ≤ S k ∧ S k ≤ 1024 := fun k => by rw [← HS.out]; exact szF_bd X t0 n k
          obtain ⟨Q1, l1, hq1, -, -, hrd1⟩ := Kit.zbd HO1.out
          obtain ⟨Q2, l2, hq2, -, -, hrd2⟩ := Kit.zbd HO2.out
          cases hq1
          cases hq2
          have CP := Lib.hid (CArena.rplace_yes S U i k1 k2 (by omega) (fun k _ => ⟨(hSb k).1, by have := (hSb k).2; omega⟩) V1 V2 wr hrd1 hrd2)
          have hat : CArena.plc S U = atF X t0 n := by unfold atF; rw [HS.out, HU.out]
          have hrm : CArena.roomZ S (CArena.plc S U) i = R := by rw [HRM.out, HM1.out]; unfold rmF; rw [hat, HS.out]
          have HAT := Lib.hid hat
          have HRR := Lib.hid hrm
          have HBT := Lib.hid (HB3.out.trans (HW.out.mono HB3.out.size))
          clear hat hrm hrd1 hrd2 hSb
          go_wp2_with (first
            | (go_at_call 11
               refine CP.out.mono ?_
               rintro e w4 ⟨v4, rfl, hown4, hb4⟩
               rw [HRR.out]
               rw [HAT.out] at hown4
               obtain ⟨A8, c8, rfl, -, -, hrd8⟩ := Kit.zbd hown4
               have HR8 := Lib.hid hrd8
               have HB4 := Lib.hid (HBT.out.trans (hb4.mono HBT.out.size))
               have HP4 := Lib.hid (HPW.out.below (Nat.lt_of_lt_of_le HLT.out HW.out.size) hb4)
               have HS4 := Lib.hid (HS5.out.below (HW.out.trans (hb4.mono HW.out.size)))
               clear hown4 hrd8 hb4
               obtain ⟨p0, p1, p2⟩ := HP4.out)
            | (go_at_call 12
               refine (isame_to (atF X t0 n) i (by omega) B5 A8 d5 c8 _ HS4.out HR8.out).mono ?_
               rintro e w5 ⟨rfl, q5, hq5⟩
               have HB5 := Lib.hid (show Below w.heap.size w w5 by rw [hq5]; exact Kit.below_drewN HB4.out q5)
               have HP5 := Lib.hid (show PlanAt w2.heap.size (.slice A5 i c5) (.slice B5 i d5) R w5 by rw [hq5]; exact HP4.out)
               clear hq5 p0 p1 p2
               obtain ⟨p0, p1, p2⟩ := HP5.out)
            | (go_at_call 6
               refine (known29 _ (HT.out.below HB5.out HT.out.size)).mono ?_
               rintro e w9 ⟨rfl, hb9⟩))
          go_ret
          exact ⟨rfl, HB5.out.trans (hb9.mono HB5.out.size)⟩
theorem walk {w : World} (A : Option Addr) (X : Nat → Nd) (n c : Nat) (hc : n ≤ c) (hm : c ≤ maxLen) (hN : za4 w w.heap.size A n X) (hO : ∀ j, j < n → NdOk w w.heap.size (X j)) (H : Int) (wH : (Lit.int .i64 H).wf = true) (W : Int) (wW : (Lit.int .i64 W).wf = true) (C : Int) (wC : (Lit.int .i64 C).wf = true) (hT : za0 w) :
    Calls Tryd.prog 3 #[.slice A n c, .agg #[.int .i64 H, .int .i64 W, .int .i64 C]] w fun e w' => e = .returned (.bool true) ∧ Below w.heap.size w w' :=
  walk_all X A n c hN (fun j hj => node_small (hO j hj)) (H, W, C) hT
/-! ### the frame: written by program -/
theorem own : ownKnob Tryd.prog.godebug = none := by kernel_rfl
theorem laid : laidOutB Tryd.prog = true := by kernel_rfl
theorem contract {H : Type} {enc : TypeId × Value → H} {W : World} {base : Nat} {args : Array Value} {ds gs : List (DataW H)} {before : List MemPlace}
    (hval0 : ∀ (j : Nat) t v, Tryd.f3.params[j]? = some t → args[j]? = some v → Value.okWide Tryd.prog W .any base t v)
    (hW : DataW.Whole enc Tryd.prog Tryd.f3.params.toList Rows.slabPlansSpec.vars false W args.toList ds gs before)
    (hL : laidMetH Tryd.prog [("stepwell/kinds.names", Rows.laid_stepwell_kinds_names)] W) :
    Calls Tryd.prog 3 args W fun e W' => e = .returned (.bool true) ∧ Below W.heap.size W W' := by
  have hval : ∀ (j : Nat) t v, Tryd.f3.params[j]? = some t → args[j]? = some v → Value.okWide Tryd.prog W .any base t v := hval0
  obtain ⟨p, q, hA0, hV, rfl, hfz, hnd⟩ := hW
  have hA : DataW.TrodAll enc Tryd.prog W 0 (fun _ => true) true Tryd.f3.params.toList args.toList ds p := hA0
  rw [Tryd.params3] at hA hval
  obtain ⟨v0, vs0, d0, ds0, p0, q0, hargs, rfl, rfl, h0, r0⟩ := trodAll_cons hA
  obtain ⟨v1, vs1, d1, ds1, p1, q1, rfl, rfl, rfl, h1, r1⟩ := trodAll_cons r0
  obtain ⟨rfl, rfl, rfl⟩ := trodAll_nil r1
  obtain rfl : args = #[v0, v1] := by cases args; simp_all
  clear hA0 hval0
  obtain ⟨A0, X0, n0, c0, rfl, hc0, hm0, hN0, hO0⟩ := CGraph.open_nodes (hval 0 22 v0 rfl rfl) h0
  obtain ⟨cs1, rfl, hs1, hf1⟩ := Kit.open_flat Tryd.underlying24 (by kernel_rfl) (by kernel_rfl) (hval 1 24 v1 rfl rfl) h1
  obtain ⟨u1_0, u1_1, u1_2, rfl⟩ := Kit.size_3 hs1
  obtain ⟨a1_0, rfl, w1_0⟩ := Kit.flat_int Tryd.underlying3 (v := u1_0) rfl (hf1 0 _ rfl)
  obtain ⟨a1_1, rfl, w1_1⟩ := Kit.flat_int Tryd.underlying3 (v := u1_1) rfl (hf1 1 _ rfl)
  obtain ⟨a1_2, rfl, w1_2⟩ := Kit.flat_int Tryd.underlying3 (v := u1_2) rfl (hf1 2 _ rfl)
  exact walk (w := W) A0 X0 n0 c0 hc0 hm0 hN0 hO0 a1_0 w1_0 a1_1 w1_1 a1_2 w1_2 (of_laid hL)
theorem fnIs {H : Type} : ∀ ds : List (DataW H), ds.length = Tryd.f3.params.toList.length → Rows.slabPlansSpec.fn H ds = { results := [.lit (.bool true)], args := ds } := by
  intro ds h
  rw [Tryd.params3] at h
  match ds, h with
  | [d1, d2], _ => rfl
theorem door_met (os : Os) (args : Array Value) : laidMetH Tryd.prog [("stepwell/kinds.names", Rows.laid_stepwell_kinds_names)] ((World.doorLaid Tryd.prog 400 os).forCall (fun _ _ => 0) ⟨#[], args, []⟩).memory :=
  laidMetH_of_parts3 (fuel := 8) (laidMet_of_run' 8 (by kernel_rfl) (by kernel_rfl)) (by kernel_rfl) (by kernel_rfl)
set_option maxRecDepth 100000 in
theorem lifted (os : Os) (started : os.Started) (H : Type) (enc : TypeId × Value → H) :
    ReturnsInHanded {} Tryd.checked os 3 .any (fun w args => (Rows.slabPlansSpec.pre enc Tryd.prog Tryd.f3 [] false w args ∧ laidMetH Tryd.prog [("stepwell/kinds.names", Rows.laid_stepwell_kinds_names)] w) ∧ sizedMet enc Tryd.prog Tryd.f3 (OpenSpec.ofChange Rows.slabPlansSpec) false w args) (Rows.slabPlansSpec.post enc Tryd.prog Tryd.f3 false true false false) := by
  refine returnsInHanded_of_change_and (C := Tryd.checked) (X := fun w _ => laidMetH Tryd.prog [("stepwell/kinds.names", Rows.laid_stepwell_kinds_names)] w) (fun _ _ _ hh h => h.of_heap hh) own started (by kernel_rfl) Tryd.func3
    (ChangeSpec.witness_shaped (enc := enc) (C := Tryd.checked) (os := os) (X := fun w _ => laidMetH Tryd.prog [("stepwell/kinds.names", Rows.laid_stepwell_kinds_names)] w) false (World.doorLaid Tryd.prog 400 os) #[.slice none 0 0, .agg #[.int .i64 0, .int .i64 0, .int .i64 0]] 8 rfl (World.shaped_of_RefB (by kernel_rfl) (by kernel_rfl)) (by kernel_rfl) (by kernel_rfl) (by kernel_rfl) (door_met os _)) ?_
  intro W base args ds gs before hval hW _ _ hL _
  refine (contract hval hW hL).mono fun e W' ⟨he, hg⟩ => ?_
  subst he
  exact ⟨_, rfl, Kit.law_post (tb := 4) laid (by kernel_rfl) rfl (by kernel_rfl) Tryd.underlying4 fnIs hW hg⟩
theorem over : Rows.slabPlansRow.holds Tryd.pinned (OpenSpec.ofChange Rows.slabPlansSpec) :=
  OpenClaim.holds_of_wide 3 Tryd.f3 rfl rfl rfl rfl rfl rfl rfl ⟨rfl, rfl, rfl, rfl, rfl⟩ rfl rfl rfl rfl rfl (by kernel_rfl) Tryd.func3 (by kernel_rfl)
    (of_decide_eq_true (by kernel_rfl)) (by unfold Func.isWrapper; first | (rw [if_pos (by decide +kernel)]; kernel_rfl) | (rw [if_neg (by decide +kernel)]; exact ⟨rfl, rfl⟩))
    (fun os started H enc _ => lifted os started H enc)
/-- the statement: the tied card. -/
theorem proved : Rows.SlabPlansCardSaid :=
  Claim7.holds_tied_plain_at .later [] [.data] true (true, "c38b4bc66ac3a8eaf2fcc18e5651867216ca20c91943c173565078be31442695") false
    over (fun _ h => by cases h) (by kernel_rfl) (fun _ h => by cases h) slabPlans_row_tie rfl ⟨rfl, rfl⟩ (by kernel_rfl) rfl
    (fun f fn hf hfn => by
      obtain rfl : f = 3 := Option.some.inj ((show Tryd.prog.funcNamed "stepwell/stepwelllaw29.SlabPlans" = some 3 by kernel_rfl).symm.trans hf) |>.symm
      obtain rfl : fn = Tryd.f3 := (Option.some.inj (Tryd.func3.symm.trans hfn)).symm
      exact ⟨by kernel_rfl, fun j t ht => by
        rw [Tryd.params3] at ht
        have hm : t ∈ [22, 24] := by simpa using Array.mem_of_getElem? ht
        have hall : ([22, 24].all fun u => !Tryd.prog.wantsStandIn u) = true := by kernel_rfl
        exact (show Tryd.prog.wantsStandIn t = false by simpa using List.all_eq_true.1 hall t hm)⟩)
    (by kernel_rfl)
end Go.Proofs.YtdphhfijgckhiaaDoor.lawSlabPlans
