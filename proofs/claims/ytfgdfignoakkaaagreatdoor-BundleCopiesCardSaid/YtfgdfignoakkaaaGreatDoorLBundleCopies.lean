/- Layer 35 (bundle), BundleCopies: a copy of any bundle is as it, and stays so when weights and needs of what was copied are others: whatever the bundle; the call returns true and leaves its argument as it was. Conditions: the tables that the card lists, as the program's text lays them. -/
import Derived.StillTailTactics
import Derived.Test.YtfgdfignoakkaaaGreatDoorTie
import Derived.Test.YtfgdfignoakkaaaGreatDoorCards
import Derived.Test.YtfgdfignoakkaaaGreatDoorGBC29
import Derived.Test.YtfgdfignoakkaaaGreatDoorGBC32
import Derived.Test.YtfgdfignoakkaaaGreatDoorGBC33
import Derived.Test.YtfgdfignoakkaaaGreatDoorGBC35
import Derived.Test.YtfgdfignoakkaaaGreatDoorGBC36
namespace Go.Proofs.YtfgdfignoakkaaaGreatDoor.CConv
end Go.Proofs.YtfgdfignoakkaaaGreatDoor.CConv
namespace Go.Proofs.YtfgdfignoakkaaaGreatDoor.CFix
end Go.Proofs.YtfgdfignoakkaaaGreatDoor.CFix
namespace Go.Proofs.YtfgdfignoakkaaaGreatDoor.CGraph
end Go.Proofs.YtfgdfignoakkaaaGreatDoor.CGraph
namespace Go.Proofs.YtfgdfignoakkaaaGreatDoor.CKind
end Go.Proofs.YtfgdfignoakkaaaGreatDoor.CKind
namespace Go.Proofs.YtfgdfignoakkaaaGreatDoor.CSat
end Go.Proofs.YtfgdfignoakkaaaGreatDoor.CSat
namespace Go.Proofs.YtfgdfignoakkaaaGreatDoor.CShape
end Go.Proofs.YtfgdfignoakkaaaGreatDoor.CShape
namespace Go.Proofs.YtfgdfignoakkaaaGreatDoor.CTensor
end Go.Proofs.YtfgdfignoakkaaaGreatDoor.CTensor
namespace Go.Proofs.YtfgdfignoakkaaaGreatDoor.Plain
end Go.Proofs.YtfgdfignoakkaaaGreatDoor.Plain
namespace Go.Proofs.YtfgdfignoakkaaaGreatDoor.lawBundleCopies
open Go Go.ChangeShapes Go.WideShapes Go.ChangeAt Go.RowKit Go.Deep
open Plain CSat CFix CShape CTensor CConv CKind CGraph CBund CrcNum CCrc CBunM CBunL
set_option maxRecDepth 100000
set_option linter.unusedVariables false
set_option linter.unusedSimpArgs false
set_option maxHeartbeats 16000000 in
theorem walk {w : World} (u : Bu) (hu : BuOk w w.heap.size u) (hT : zah w ∧ NamesIn w) :
    Calls Tryz.prog 4 #[.agg u.val.toArray] w fun e w' => e = .returned (.bool true) ∧ Below w.heap.size w w' := by
  obtain ⟨p, hp⟩ := bu_in hu
  have HP := Lib.hid hp
  have CF : Hid (∀ wx, Below w.heap.size w wx → Calls Tryz.prog 8 #[.agg u.val.toArray] wx fun e w' => ∃ b, e = .returned (.bool b) ∧ (b = true → FewBuU u) ∧ Below wx.heap.size wx w') :=
    Lib.hid (fun wx hx => rfew35_to u wx ((hu.below hx).more hx.size))
  have CK : Hid (∀ wx, Below w.heap.size w wx → Calls Tryz.prog 9 #[] wx fun e w' => e = .returned (.bool true) ∧ Below wx.heap.size wx w') :=
    Lib.hid (fun wx hx => known35 wx (hT.1.below hx hT.1.size))
  have HB0 := Lib.hid ((Below.refl w.heap.size w).alloc (Nat.le_refl _) (.cells u.val.toArray 26))
  have HBX := Lib.hid (CBox.new u.val 26 w)
  have HSZ : Hid (w.heap.size < (w.alloc (.cells u.val.toArray 26)).heap.size) := Lib.hid (by simp)
  clear hu hT hp
  go_enter Tryz.func4, Tryz.ntmps4
  go_upto_region 1 with fail
  generalize w.alloc (.cells u.val.toArray 26) = W0 at HB0 HBX HSZ ⊢
  go_upto_region 3 with (first
    | (refine bu_load rfl _ rfl w.heap.size u rfl HBX.out.1 ?_)
    | (go_at_call 8
       refine (CF.out _ HB0.out).mono ?_
       rintro e w1 ⟨bf, rfl, hfew, hb⟩
       have HB1 := Lib.hid (HB0.out.trans (hb.mono HB0.out.size))
       have HBX1 := Lib.hid (HBX.out.below HSZ.out hb)
       have HSZ1 := Lib.hid (Nat.lt_of_lt_of_le HSZ.out hb.size)
       have HFW : Hid (FewIs bf (FewBuU u)) := Lib.hid hfew
       clear hfew hb
       rcases bf with _ | _)
    | (go_at_call 9
       refine (CK.out _ HB1.out).mono ?_
       rintro e w2 ⟨rfl, hb⟩
       have HB2 := Lib.hid (HB1.out.trans (hb.mono HB1.out.size))
       clear hb))
  · go_ret
    exact ⟨rfl, HB2.out⟩
  have hf : p.few := bu_few HP.out (HFW.out rfl)
  have HF := Lib.hid hf
  clear hf HB0 HBX HSZ HFW
  have C1 := Lib.hid (ccopyU_to u p HF.out w1 (Nat.le_trans (Nat.le_refl _) HB1.out.size) (HP.out.keep (Kept.of_below HB1.out (Nat.le_refl _))))
  go_upto_region 4 with (first
    | (refine bu_load rfl _ rfl w.heap.size u rfl HBX1.out.1 ?_)
    | (go_at_call 17
       refine C1.out.mono ?_
       rintro e w2 ⟨c, rfl, h1, h2⟩
       have HC2 := Lib.hid h1
       have HB2 := Lib.hid h2
       clear h1 h2)
    | (refine bu_store rfl _ _ rfl w2.heap.size [.int .i64 0, .int .i64 0, .int .i64 0, .int .i64 0, .slice none 0 0] c rfl rfl (CBox.new [.int .i64 0, .int .i64 0, .int .i64 0, .int .i64 0, .slice none 0 0] _ w2) ?_
       intro w3 g1 g2 g3 g4
       have HCB := Lib.hid g1
       have HB3 := Lib.hid (show Below w2.heap.size w2 w3 from ((Below.refl _ _).alloc (Nat.le_refl _) _).trans g2)
       have HS3 := Lib.hid (show w3.heap.size = w2.heap.size + 1 from by rw [g4]; simp)
       clear g1 g2 g3 g4))
  -- worlds: w, w1 (Few), w2 (Copy), w3 (its box)
  have HW3 := Lib.hid (HB1.out.trans ((HB2.out.trans (HB3.out.mono HB2.out.size)).mono HB1.out.size))
  have HBX3 := Lib.hid ((HBX1.out.below HSZ1.out HB2.out).below (Nat.lt_of_lt_of_le HSZ1.out HB2.out.size) HB3.out)
  have HU3 := Lib.hid (HP.out.keep (Kept.of_below HW3.out (Nat.le_refl _)))
  have HC3 := Lib.hid (HC2.out.keep (Kept.of_below HB3.out (Nat.le_refl _)))
  have S1 := Lib.hid (sbun_yes c u p HF.out w3 HC3.out HU3.out HB3.out.size HW3.out.size)
  go_upto_region 6 with (first
    | (refine bu_load rfl _ rfl w2.heap.size c rfl HCB.out.1 ?_)
    | (refine bu_load rfl _ rfl w.heap.size u rfl HBX3.out.1 ?_)
    | (go_at_call 14
       refine S1.out.mono ?_
       rintro e w4 ⟨rfl, h2⟩
       have HB4 := Lib.hid h2
       clear h2))
  have s3 := HS3.out
  have s4 : w3.heap.size ≤ w4.heap.size := HB4.out.size
  have s12 : w1.heap.size ≤ w2.heap.size := HB2.out.size
  have HCB4 := Lib.hid (HCB.out.below (by omega) HB4.out)
  have HC4 := Lib.hid (HC3.out.keep (Kept.of_below HB4.out (by omega)))
  have C2 := Lib.hid (ccopyU_to c p HF.out w4 (by omega) HC4.out)
  clear s3 s4 s12
  go_upto_region 7 with (first
    | (refine bu_load rfl _ rfl w2.heap.size c rfl HCB4.out.1 ?_)
    | (go_at_call 17
       refine C2.out.mono ?_
       rintro e w5 ⟨d, rfl, h1, h2⟩
       have HD5 := Lib.hid h1
       have HB5 := Lib.hid h2
       clear h1 h2)
    | (refine bu_store rfl _ _ rfl w5.heap.size [.int .i64 0, .int .i64 0, .int .i64 0, .int .i64 0, .slice none 0 0] d rfl rfl (CBox.new [.int .i64 0, .int .i64 0, .int .i64 0, .int .i64 0, .slice none 0 0] _ w5) ?_
       intro w6 g1 g2 g3 g4
       have HDB := Lib.hid g1
       have HB6 := Lib.hid (show Below w5.heap.size w5 w6 from ((Below.refl _ _).alloc (Nat.le_refl _) _).trans g2)
       have HS6 := Lib.hid (show w6.heap.size = w5.heap.size + 1 from by rw [g4]; simp)
       clear g1 g2 g3 g4))
  have s3 := HS3.out
  have s4 : w3.heap.size ≤ w4.heap.size := HB4.out.size
  have s5 : w4.heap.size ≤ w5.heap.size := HB5.out.size
  have s6 := HS6.out
  have s12 : w1.heap.size ≤ w2.heap.size := HB2.out.size
  have s01 : w.heap.size < w1.heap.size := HSZ1.out
  have b46 : Below w4.heap.size w4 w6 := HB5.out.trans (HB6.out.mono HB5.out.size)
  have b36 : Below w3.heap.size w3 w6 := HB4.out.trans (b46.mono HB4.out.size)
  have HW6 := Lib.hid (HW3.out.trans (b36.mono HW3.out.size))
  have HC6 := Lib.hid (HC3.out.keep (Kept.of_below b36 (by omega)))
  have HCB6 := Lib.hid (HCB.out.below (by omega) b36)
  have HBX6 := Lib.hid (HBX3.out.below (by omega) b36)
  have HD6 := Lib.hid (HD5.out.keep (Kept.of_below HB6.out (Nat.le_refl _)))
  have HU6 := Lib.hid (HU3.out.keep (Kept.of_below b36 (by omega)))
  clear HB3 HB4 HB5 HB6 HC2 HC3 HC4 HCB HCB4 HBX1 HBX3 HD5 HU3 C1 C2 S1 b46 b36
  have HS : Hid (w.heap.size < w1.heap.size ∧ w1.heap.size ≤ w2.heap.size ∧ w2.heap.size < w4.heap.size ∧ w4.heap.size ≤ w5.heap.size ∧ w5.heap.size < w6.heap.size) := Lib.hid ⟨s01, s12, by omega, s5, by omega⟩
  clear s3 s4 s5 s6 s12 s01 HS3 HS6 HSZ1
  have H4 := HF.out.1
  have HF2 := Lib.hid HF.out.2
  have HN := Lib.hid HC6.out.n
  have HMX := Lib.hid HC6.out.models
  have HME := Lib.hid HC6.out.each
  have HK4 : Hid (∀ wS, Muts w1.heap.size w2.heap.size w6 wS → wS.cell? ⟨w2.heap.size, 4, none⟩ = some (.slice c.A c.n c.c)) := Lib.hid (fun wS h => (HCB6.out.keep (h.kept (Nat.le_refl _) (by have := HS.out; omega))).at 4 _ rfl)
  obtain ⟨n1, hn1⟩ : ∃ n1, c.n = n1 := ⟨_, rfl⟩
  have hn4 : n1 ≤ 4 := by rw [← hn1, HN.out]; exact H4
  have HN1 := Lib.hid hn1
  rw [hn1] at HN HMX HME HK4
  obtain ⟨A1, hA1⟩ : ∃ A1, c.A = A1 := ⟨_, rfl⟩
  rw [hA1] at HMX HK4
  clear hn1 hA1 H4 HC6 HCB6
  go_wp2_with fail
  go_loopw [5] (fun v wr => ∃ i : Nat, i ≤ n1 ∧ v = .int .i64 i ∧ Hid (Muts w1.heap.size w2.heap.size w6 wr)) (fun v _ => n1 - (intOf v).toNat)
  case atStart => exact ⟨0, Nat.zero_le _, rfl, Lib.hid (Muts.refl _ _ _)⟩
  case round =>
    obtain ⟨i, hi, rfl, HM⟩ := hrel
    have c4 := HK4.out wr HM.out
    by_cases hlt : i < n1
    · have i0 : (0 : Int) ≤ (i : Int) := by omega
      have i1 : (i : Int) < (n1 : Int) := by omega
      obtain ⟨gm, om, rfl, m1, m2, hrm, -⟩ := HMX.out i hlt
      have HMi := Lib.hid (HME.out i hlt)
      have hfm := HF2.out i (by rw [← HN.out]; exact hlt)
      have HK5 : Hid (∀ wS, Muts w1.heap.size w2.heap.size w6 wS → wS.cell? ⟨gm, om + i, none⟩ = some (.slice (c.M i).A (c.M i).n (c.M i).c)) := Lib.hid (fun wS h => h.head gm (om + i) _ _ _ m1 m2 (by simpa using hrm 0 _ rfl))
      generalize c.M i = M at HMi HK5
      generalize p.M i = pM at HMi hfm
      obtain ⟨A2, n2, c2, K⟩ := M
      have hn8 : n2 ≤ 8 := by have h1 := HMi.out.n; dsimp only at h1; rw [h1]; exact hfm.1
      have HFM := Lib.hid hfm
      have HBX2 : Hid (BksX true w6 w1.heap.size w2.heap.size A2 n2 K) := Lib.hid HMi.out.blocks
      dsimp only at HK5
      have m0 := HK5.out wr HM.out
      clear hrm hfm
      go_wp2_with fail
      clear c4 m0
      go_loopw [6] (fun v wr => ∃ k : Nat, k ≤ n2 ∧ v = .int .i64 k ∧ Hid (Muts w1.heap.size w2.heap.size w6 wr)) (fun v _ => n2 - (intOf v).toNat)
      case atStart => exact ⟨0, Nat.zero_le _, rfl, HM⟩
      case round =>
        obtain ⟨k, hk, rfl, HM⟩ := hrel
        have c4 := HK4.out wr HM.out
        have m0 := HK5.out wr HM.out
        by_cases hlk : k < n2
        · have k0 : (0 : Int) ≤ (k : Int) := by omega
          have k1 : (k : Int) < (n2 : Int) := by omega
          obtain ⟨gb, ob, rfl, b1, b2, hrb, hfb⟩ := HBX2.out k hlk
          have HBi := Lib.hid (HMi.out.each k hlk)
          have hfk := HFM.out.2 k (by have h1 := HMi.out.n; dsimp only at h1; rw [← h1]; exact hlk)
          dsimp only at HBi
          have HR0 : Hid (∀ wS, Muts w1.heap.size w2.heap.size w6 wS → wS.cell? ⟨gb, ob + k * 5, none⟩ = some (.slice (K k).A (K k).n (K k).c)) := Lib.hid (fun wS h => h.head gb (ob + k * 5) _ _ _ b1 b2 (hrb 0 _ rfl))
          have HR2 : Hid (∀ wS, Muts w1.heap.size w2.heap.size w6 wS → wS.cell? ⟨gb, ob + k * 5 + 2, none⟩ = some (.slice (K k).hd.WA (K k).hd.nW (K k).hd.cW)) := Lib.hid (fun wS h => h.head gb (ob + k * 5 + 2) _ _ _ b1 b2 (hrb 2 _ rfl))
          obtain ⟨z4, d4⟩ := HM.out.int gb (ob + k * 5 + 4) .i32 _ b1 b2 (hrb 4 _ rfl)
          have f4 : wr.frozen? ⟨gb, ob + k * 5 + 4, none⟩ = false := (HM.out.fr gb _ b1 b2).trans (hfb rfl 4 (by decide))
          have HM4 : Hid (∀ v, Muts w1.heap.size w2.heap.size w6 (wr.setCell ⟨gb, ob + k * 5 + 4, none⟩ (.int .i32 v))) := Lib.hid (fun v => HM.out.set v b1 b2 d4)
          generalize K k = Q at HBi HR0 HR2
          generalize pM.K k = pK at HBi hfk
          obtain ⟨A3, n3, c3, X, ex, ⟨WA, nW, cW, BA, nB, cB, D⟩⟩ := Q
          dsimp only at HR0 HR2
          obtain ⟨q1, q2, q3, q4⟩ := hfk
          have hn12 : n3 ≤ 12 := by have h1 := HBi.out.n; dsimp only at h1; rw [h1]; exact q1
          have hw4 : nW ≤ 4000 := by have h1 := HBi.out.lw.len; dsimp only at h1; rw [← h1]; exact q3
          have HLW : Hid (LsIn true w6 w1.heap.size w2.heap.size .i8 WA nW cW pK.W) := Lib.hid HBi.out.lw
          have HNX : Hid (NdsX true w6 w1.heap.size w2.heap.size A3 n3 X) := Lib.hid HBi.out.nodes
          have HNE : Hid (∀ j, j < n3 → NdIn true w6 w1.heap.size w2.heap.size (X j) (pK.N j)) := Lib.hid HBi.out.each
          have HQ2 : Hid (∀ j, j < n3 → (pK.N j).ws.length ≤ 1000) := Lib.hid (fun j hj => (q2 j (by have h1 := HBi.out.n; dsimp only at h1; rw [← h1]; exact hj)).1)
          clear hrb hfb q1 q2 q3 q4
          go_wp2_with fail
          clear c4 m0 d4 f4
          go_loopw [8] (fun v wr => ∃ q : Nat, q ≤ nW ∧ v = .int .i64 q ∧ Hid (Muts w1.heap.size w2.heap.size w6 wr)) (fun v _ => nW - (intOf v).toNat)
          case atStart => exact ⟨0, Nat.zero_le _, rfl, Lib.hid (HM4.out _)⟩
          case round =>
            obtain ⟨q, hq, rfl, HM⟩ := hrel
            have d2 := HR2.out wr HM.out
            by_cases hlq : q < nW
            · have q0 : (0 : Int) ≤ (q : Int) := by omega
              have q1 : (q : Int) < (nW : Int) := by omega
              obtain ⟨gw, ow, rfl, v1, v2, hcz, hfz⟩ := HLW.out.rd q _ (List.getElem?_eq_getElem (by rw [List.length_map, HLW.out.len]; exact hlq))
              rw [List.getElem_map] at hcz
              obtain ⟨z, dz⟩ := HM.out.int gw (ow + q) .i8 _ v1 v2 hcz
              have HM5 : Hid (∀ v, Muts w1.heap.size w2.heap.size w6 (wr.drew.setCell ⟨gw, ow + q, none⟩ (.int .i8 v))) := Lib.hid (fun v => HM.out.drew.set v v1 v2 dz)
              have e2 : wr.drew.cell? ⟨gb, ob + k * 5 + 2, none⟩ = some (.slice (some ⟨gw, ow, none⟩) nW cW) := d2
              have ez : wr.drew.cell? ⟨gw, ow + q, none⟩ = some (.int .i8 z) := dz
              have ef : wr.drew.frozen? ⟨gw, ow + q, none⟩ = false := (HM.out.fr gw _ v1 v2).trans (hfz rfl)
              clear hcz hfz dz
              go_upto_region 18 with fail
              refine wp_region_still_tail 18 (by kernel_rfl) (by kernel_rfl) ?_
              rw [show ({ wr with drawn := wr.drawn + 1 } : World) = wr.drew from rfl]
              clear d2
              generalize wr.drew = wd at e2 ez ef HM5 ⊢
              simp only [List.take_succ_cons, List.take_zero, List.drop_succ_cons, List.drop_zero]
              repeat still_step
              refine wpStill_nil ?_
              go_wp2_with fail
              go_roundw
              case rel => exact ⟨q + 1, by omega, by go_num, Lib.hid (HM5.out _)⟩
              case measure => simp [intOf]; omega
            · obtain rfl : q = nW := by omega
              go_wp2_with fail
              clear d2
              go_loopw [9] (fun v wr => ∃ j : Nat, j ≤ n3 ∧ v = .int .i64 j ∧ Hid (Muts w1.heap.size w2.heap.size w6 wr)) (fun v _ => n3 - (intOf v).toNat)
              case atStart => exact ⟨0, Nat.zero_le _, rfl, HM⟩
              case round =>
                obtain ⟨j, hj, rfl, HM⟩ := hrel
                have d0 := HR0.out wr HM.out
                by_cases hlj : j < n3
                · have j0 : (0 : Int) ≤ (j : Int) := by omega
                  have j1 : (j : Int) < (n3 : Int) := by omega
                  obtain ⟨gn, on, rfl, x1, x2, hrn, hfn⟩ := HNX.out j hlj
                  have HNi := Lib.hid (HNE.out j hlj)
                  have hq2 := HQ2.out j hlj
                  have HR9 : Hid (∀ wS, Muts w1.heap.size w2.heap.size w6 wS → wS.cell? ⟨gn, on + j * 19 + 9, none⟩ = some (.slice (X j).WA (X j).nW (X j).cW)) := Lib.hid (fun wS h => h.head gn (on + j * 19 + 9) _ _ _ x1 x2 (hrn 9 _ rfl))
                  obtain ⟨z, dz⟩ := HM.out.int gn (on + j * 19 + 1) .i64 _ x1 x2 (hrn 1 _ rfl)
                  have HM5 : Hid (∀ v, Muts w1.heap.size w2.heap.size w6 (wr.drew.setCell ⟨gn, on + j * 19 + 1, none⟩ (.int .i64 v))) := Lib.hid (fun v => HM.out.drew.set v x1 x2 dz)
                  have e0 : wr.drew.cell? ⟨gb, ob + k * 5, none⟩ = some (.slice (some ⟨gn, on, none⟩) n3 c3) := d0
                  have ez : wr.drew.cell? ⟨gn, on + j * 19 + 1, none⟩ = some (.int .i64 z) := dz
                  have ef : wr.drew.frozen? ⟨gn, on + j * 19 + 1, none⟩ = false := (HM.out.fr gn _ x1 x2).trans (hfn rfl 1 (by decide))
                  have HLX : Hid (LsIn true w6 w1.heap.size w2.heap.size .i8 (X j).WA (X j).nW (X j).cW (pK.N j).ws) := Lib.hid HNi.out.lw
                  have hx9 : (X j).nW ≤ 1000 := by rw [← HNi.out.lw.len]; exact hq2
                  generalize (X j).WA = XA at HR9 HLX
                  generalize (X j).cW = XC at HR9 HLX
                  obtain ⟨xn, hxn⟩ : ∃ xn, (X j).nW = xn := ⟨_, rfl⟩
                  rw [hxn] at HR9 HLX hx9
                  clear hrn hfn dz hq2 HNi hxn
                  go_upto_region 22 with fail
                  refine wp_region_still_tail 18 (by kernel_rfl) (by kernel_rfl) ?_
                  rw [show ({ wr with drawn := wr.drawn + 1 } : World) = wr.drew from rfl]
                  clear d0
                  generalize wr.drew = wd at e0 ez ef HM5 ⊢
                  simp only [List.take_succ_cons, List.take_zero, List.drop_succ_cons, List.drop_zero]
                  repeat still_step
                  refine wpStill_nil ?_
                  go_wp2_with fail
                  clear e0 ez ef
                  go_loopw [10] (fun v wr => ∃ t : Nat, t ≤ xn ∧ v = .int .i64 t ∧ Hid (Muts w1.heap.size w2.heap.size w6 wr)) (fun v _ => xn - (intOf v).toNat)
                  case atStart => exact ⟨0, Nat.zero_le _, rfl, Lib.hid (HM5.out _)⟩
                  case round =>
                    obtain ⟨t, ht, rfl, HM⟩ := hrel
                    have d0 := HR0.out wr HM.out
                    have d9 := HR9.out wr HM.out
                    by_cases hlt2 : t < xn
                    · have t0 : (0 : Int) ≤ (t : Int) := by omega
                      have t1 : (t : Int) < (xn : Int) := by omega
                      obtain ⟨gw, ow, rfl, v1, v2, hcz, hfz⟩ := HLX.out.rd t _ (List.getElem?_eq_getElem (by rw [List.length_map, HLX.out.len]; exact hlt2))
                      rw [List.getElem_map] at hcz
                      obtain ⟨z, dz⟩ := HM.out.int gw (ow + t) .i8 _ v1 v2 hcz
                      have HM6 : Hid (∀ v, Muts w1.heap.size w2.heap.size w6 (wr.drew.setCell ⟨gw, ow + t, none⟩ (.int .i8 v))) := Lib.hid (fun v => HM.out.drew.set v v1 v2 dz)
                      have e0 : wr.drew.cell? ⟨gb, ob + k * 5, none⟩ = some (.slice (some ⟨gn, on, none⟩) n3 c3) := d0
                      have e9 : wr.drew.cell? ⟨gn, on + j * 19 + 9, none⟩ = some (.slice (some ⟨gw, ow, none⟩) xn XC) := d9
                      have ez : wr.drew.cell? ⟨gw, ow + t, none⟩ = some (.int .i8 z) := dz
                      have ef : wr.drew.frozen? ⟨gw, ow + t, none⟩ = false := (HM.out.fr gw _ v1 v2).trans (hfz rfl)
                      clear hcz hfz dz
                      go_upto_region 26 with fail
                      refine wp_region_still_tail 24 (by kernel_rfl) (by kernel_rfl) ?_
                      rw [show ({ wr with drawn := wr.drawn + 1 } : World) = wr.drew from rfl]
                      clear d0 d9
                      generalize wr.drew = wd at e0 e9 ez ef HM6 ⊢
                      simp only [List.take_succ_cons, List.take_zero, List.drop_succ_cons, List.drop_zero]
                      repeat still_step
                      refine wpStill_nil ?_
                      go_wp2_with fail
                      go_roundw
                      case rel => exact ⟨t + 1, by omega, by go_num, Lib.hid (HM6.out _)⟩
                      case measure => simp [intOf]; omega
                    · obtain rfl : t = xn := by omega
                      go_wp2_with fail
                      go_roundw
                      case rel => exact ⟨j + 1, by omega, by go_num, HM⟩
                      case measure => simp [intOf]; omega
                · obtain rfl : j = n3 := by omega
                  go_wp2_with fail
                  go_roundw
                  case rel => exact ⟨k + 1, by omega, by go_num, HM⟩
                  case measure => simp [intOf]; omega
        · obtain rfl : k = n2 := by omega
          go_wp2_with fail
          go_roundw
          case rel => exact ⟨i + 1, by omega, by go_num, HM⟩
          case measure => simp [intOf]; omega
    · obtain rfl : i = n1 := by omega
      have hs := HS.out
      have HDr := Lib.hid (HD6.out.keep (HM.out.kept (by omega) (by omega)))
      have HDBr := Lib.hid (HDB.out.keep (HM.out.kept (by omega) (by omega)))
      have HUr := Lib.hid (HU6.out.keep (Kept.of_below HM.out.below (by omega)))
      have HBXr := Lib.hid (HBX6.out.keep (Kept.of_below HM.out.below (by omega)))
      have HWr := Lib.hid (HW6.out.trans (HM.out.below.mono (by omega)))
      have S2 := Lib.hid (sbun_yes d u p HF.out wr HDr.out HUr.out (by have := HM.out.below.size; omega) HWr.out.size)
      clear hs
      go_wp2_with (first
        | (refine bu_load rfl _ rfl w5.heap.size d rfl HDBr.out.1 ?_)
        | (refine bu_load rfl _ rfl w.heap.size u rfl HBXr.out.1 ?_)
        | (go_at_call 14
           refine S2.out.mono ?_
           rintro e w7 ⟨rfl, h2⟩
           have HW7 := Lib.hid (HWr.out.trans (h2.mono HWr.out.size))
           clear h2)
        | (go_at_call 9
           refine (CK.out _ HW7.out).mono ?_
           rintro e w8 ⟨rfl, hb⟩
           have HW8 := Lib.hid (HW7.out.trans (hb.mono HW7.out.size))
           clear hb))
      go_ret
      exact ⟨rfl, HW8.out⟩
/-! ### the frame: written by program -/
theorem own : ownKnob Tryz.prog.godebug = none := by kernel_rfl
theorem laid : laidOutB Tryz.prog = true := by kernel_rfl
theorem contract {H : Type} {enc : TypeId × Value → H} {W : World} {base : Nat} {args : Array Value} {ds gs : List (DataW H)} {before : List MemPlace}
    (hval0 : ∀ (j : Nat) t v, Tryz.f4.params[j]? = some t → args[j]? = some v → Value.okWide Tryz.prog W .any base t v)
    (hW : DataW.Whole enc Tryz.prog Tryz.f4.params.toList Rows.bundleCopiesSpec.vars false W args.toList ds gs before)
    (hL : laidMetH Tryz.prog [("stepwell/crc.halves", Rows.laid_stepwell_crc_halves), ("stepwell/kinds.names", Rows.laid_stepwell_kinds_names)] W) :
    Calls Tryz.prog 4 args W fun e W' => e = .returned (.bool true) ∧ Below W.heap.size W W' := by
  have hval : ∀ (j : Nat) t v, Tryz.f4.params[j]? = some t → args[j]? = some v → Value.okWide Tryz.prog W .any base t v := hval0
  obtain ⟨p, q, hA0, hV, rfl, hfz, hnd⟩ := hW
  have hA : DataW.TrodAll enc Tryz.prog W 0 (fun _ => true) true Tryz.f4.params.toList args.toList ds p := hA0
  rw [Tryz.params4] at hA hval
  obtain ⟨v0, vs0, d0, ds0, p0, q0, hargs, rfl, rfl, h0, r0⟩ := trodAll_cons hA
  obtain ⟨rfl, rfl, rfl⟩ := trodAll_nil r0
  obtain rfl : args = #[v0] := by cases args; simp_all
  clear hA0 hval0
  obtain ⟨u0, rfl, hu0⟩ := CBund.open_bundle (hval 0 26 v0 rfl rfl) h0
  exact walk (w := W) u0 hu0 (of_laid hL)
theorem fnIs {H : Type} : ∀ ds : List (DataW H), ds.length = Tryz.f4.params.toList.length → Rows.bundleCopiesSpec.fn H ds = { results := [.lit (.bool true)], args := ds } := by
  intro ds h
  rw [Tryz.params4] at h
  match ds, h with
  | [d1], _ => rfl
theorem door_met (os : Os) (args : Array Value) : laidMetH Tryz.prog [("stepwell/crc.halves", Rows.laid_stepwell_crc_halves), ("stepwell/kinds.names", Rows.laid_stepwell_kinds_names)] ((World.doorLaid Tryz.prog 400 os).forCall (fun _ _ => 0) ⟨#[], args, []⟩).memory :=
  laidMetH_of_parts3 (fuel := 8) (laidMet_of_run' 8 (by kernel_rfl) (by kernel_rfl)) (by kernel_rfl) (by kernel_rfl)
set_option maxRecDepth 100000 in
theorem lifted (os : Os) (started : os.Started) (H : Type) (enc : TypeId × Value → H) :
    ReturnsInHanded {} Tryz.checked os 4 .any (fun w args => (Rows.bundleCopiesSpec.pre enc Tryz.prog Tryz.f4 [] false w args ∧ laidMetH Tryz.prog [("stepwell/crc.halves", Rows.laid_stepwell_crc_halves), ("stepwell/kinds.names", Rows.laid_stepwell_kinds_names)] w) ∧ sizedMet enc Tryz.prog Tryz.f4 (OpenSpec.ofChange Rows.bundleCopiesSpec) false w args) (Rows.bundleCopiesSpec.post enc Tryz.prog Tryz.f4 false true false false) := by
  refine returnsInHanded_of_change_and (C := Tryz.checked) (X := fun w _ => laidMetH Tryz.prog [("stepwell/crc.halves", Rows.laid_stepwell_crc_halves), ("stepwell/kinds.names", Rows.laid_stepwell_kinds_names)] w) (fun _ _ _ hh h => h.of_heap hh) own started (by kernel_rfl) Tryz.func4
    (ChangeSpec.witness_shaped (enc := enc) (C := Tryz.checked) (os := os) (X := fun w _ => laidMetH Tryz.prog [("stepwell/crc.halves", Rows.laid_stepwell_crc_halves), ("stepwell/kinds.names", Rows.laid_stepwell_kinds_names)] w) false (World.doorLaid Tryz.prog 400 os) #[.agg #[.int .i64 0, .int .i64 0, .int .i64 0, .int .i64 0, .slice none 0 0]] 8 rfl (World.shaped_of_RefB (by kernel_rfl) (by kernel_rfl)) (by kernel_rfl) (by kernel_rfl) (by kernel_rfl) (door_met os _)) ?_
  intro W base args ds gs before hval hW _ _ hL _
  refine (contract hval hW hL).mono fun e W' ⟨he, hg⟩ => ?_
  subst he
  exact ⟨_, rfl, Kit.law_post (tb := 4) laid (by kernel_rfl) rfl (by kernel_rfl) Tryz.underlying4 fnIs hW hg⟩
theorem over : Rows.bundleCopiesRow.holds Tryz.pinned (OpenSpec.ofChange Rows.bundleCopiesSpec) :=
  OpenClaim.holds_of_wide 4 Tryz.f4 rfl rfl rfl rfl rfl rfl rfl ⟨rfl, rfl, rfl, rfl, rfl⟩ rfl rfl rfl rfl rfl (by kernel_rfl) Tryz.func4 (by kernel_rfl)
    (of_decide_eq_true (by kernel_rfl)) (by unfold Func.isWrapper; first | (rw [if_pos (by decide +kernel)]; kernel_rfl) | (rw [if_neg (by decide +kernel)]; exact ⟨rfl, rfl⟩))
    (fun os started H enc _ => lifted os started H enc)
/-- the statement: the tied card. -/
theorem proved : Rows.BundleCopiesCardSaid :=
  Claim7.holds_tied_plain_at .later [] [.data, .data] true (true, "a357efcdb0ce870a3bbef2c2d839d233a0bc6a52ef18e0c6a0e4abea7aac9e90") false
    over (fun _ h => by cases h) (by kernel_rfl) (fun _ h => by cases h) bundleCopies_row_tie rfl ⟨rfl, rfl⟩ (by kernel_rfl) rfl
    (fun f fn hf hfn => by
      obtain rfl : f = 4 := Option.some.inj ((show Tryz.prog.funcNamed "stepwell/stepwelllaw35.BundleCopies" = some 4 by kernel_rfl).symm.trans hf) |>.symm
      obtain rfl : fn = Tryz.f4 := (Option.some.inj (Tryz.func4.symm.trans hfn)).symm
      exact ⟨by kernel_rfl, fun j t ht => by
        rw [Tryz.params4] at ht
        have hm : t ∈ [26] := by simpa using Array.mem_of_getElem? ht
        have hall : ([26].all fun u => !Tryz.prog.wantsStandIn u) = true := by kernel_rfl
        exact (show Tryz.prog.wantsStandIn t = false by simpa using List.all_eq_true.1 hall t hm)⟩)
    (by kernel_rfl)
end Go.Proofs.YtfgdfignoakkaaaGreatDoor.lawBundleCopies
