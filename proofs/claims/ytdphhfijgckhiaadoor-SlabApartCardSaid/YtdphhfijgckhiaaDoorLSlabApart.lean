/- Layer 29 (slab), SlabApart: the places of what any node takes, and of what it makes, do not meet, and all lie within the room that is told; the call returns true and leaves its arguments as they were. The names of the kinds are listed and tied to the program's text; no other condition. -/
import Derived.Test.YtdphhfijgckhiaaDoorTie
import Derived.Test.YtdphhfijgckhiaaDoorCards
import Derived.Test.YtdphhfijgckhiaaDoorGQ48
import Derived.Test.YtdphhfijgckhiaaDoorGQ49
import Derived.Test.YtdphhfijgckhiaaDoorGQ50
namespace Go.Proofs.YtdphhfijgckhiaaDoor.CConv
end Go.Proofs.YtdphhfijgckhiaaDoor.CConv
namespace Go.Proofs.YtdphhfijgckhiaaDoor.CFix
end Go.Proofs.YtdphhfijgckhiaaDoor.CFix
namespace Go.Proofs.YtdphhfijgckhiaaDoor.CKind
end Go.Proofs.YtdphhfijgckhiaaDoor.CKind
namespace Go.Proofs.YtdphhfijgckhiaaDoor.CShape
end Go.Proofs.YtdphhfijgckhiaaDoor.CShape
namespace Go.Proofs.YtdphhfijgckhiaaDoor.CTensor
end Go.Proofs.YtdphhfijgckhiaaDoor.CTensor
namespace Go.Proofs.YtdphhfijgckhiaaDoor.lawSlabApart
open Go Go.ChangeShapes Go.WideShapes Go.ChangeAt Go.RowKit Go.Deep
open Plain CSat CFix CShape CTensor CConv CKind CGraph CSlab
set_option linter.unusedVariables false
set_option linter.unusedSimpArgs false
set_option maxRecDepth 100000
def FewIs (n : Nat) (b : Bool) : Prop := b = true → n ≤ 12
set_option maxHeartbeats 8000000 in
theorem walk_all {w : World} (X : Nat → Nd) (A : Option Addr) (n c : Nat) (hN : zaq w w.heap.size A n X) (hX : ∀ j, j < n → (X j).Small) (t0 : Tri) (hT : zam w) :
    Calls Tryd.prog 4 #[.slice A n c, .agg #[.int .i64 t0.1, .int .i64 t0.2.1, .int .i64 t0.2.2]] w fun e w' => e = .returned (.bool true) ∧ Below w.heap.size w w' := by
  obtain ⟨q0, q1, q2⟩ := sh_cells t0 w
  have HB0 := Lib.hid ((Below.refl w.heap.size w).alloc (Nat.le_refl _) (.cells #[.int .i64 t0.1, .int .i64 t0.2.1, .int .i64 t0.2.2] 24))
  have hsz : w.heap.size < (w.alloc (.cells #[.int .i64 t0.1, .int .i64 t0.2.1, .int .i64 t0.2.2] 24)).heap.size := by simp
  have HSZ := Lib.hid hsz
  have HT := Lib.hid hT
  have HN := Lib.hid hN
  have HX := Lib.hid hX
  clear hT hN hX hsz
  go_enter Tryd.func4, Tryd.ntmps4
  go_upto_region 1 with fail
  generalize w.alloc (.cells #[.int .i64 t0.1, .int .i64 t0.2.1, .int .i64 t0.2.2] 24) = W0 at q0 q1 q2 HB0 HSZ ⊢
  have Q0 : Hid (∀ wx, Below (w.heap.size + 1) W0 wx → wx.cell? ⟨w.heap.size, 0, none⟩ = some (.int .i64 t0.1) ∧ wx.cell? ⟨w.heap.size, 1, none⟩ = some (.int .i64 t0.2.1) ∧ wx.cell? ⟨w.heap.size, 2, none⟩ = some (.int .i64 t0.2.2)) :=
    Lib.hid (fun wx h => ⟨(h.cell (p := ⟨w.heap.size, 0, none⟩) (Nat.lt_succ_self _)).trans q0, (h.cell (p := ⟨w.heap.size, 1, none⟩) (Nat.lt_succ_self _)).trans q1, (h.cell (p := ⟨w.heap.size, 2, none⟩) (Nat.lt_succ_self _)).trans q2⟩)
  clear q0 q1 q2
  have htwo := out_two X t0 n
  obtain ⟨L, hL⟩ : ∃ L, outL X t0 n = L := ⟨_, rfl⟩
  obtain ⟨m, hm⟩ : ∃ m, L.length = m := ⟨_, rfl⟩
  obtain ⟨p, hp⟩ : ∃ p, outP X t0 n = p := ⟨_, rfl⟩
  obtain ⟨z, hz⟩ : ∃ z, outZ X t0 n = z := ⟨_, rfl⟩
  obtain ⟨R, hR⟩ : ∃ R, outR X t0 n = R := ⟨_, rfl⟩
  rw [hL, hp, hz, hR, hm] at htwo
  have HTW := Lib.hid htwo
  have hof := fun (w : World) (hn : n ≤ 12) (hT : zam w) (hA : zaq w w.heap.size A n X) => (of_to X t0 n c (by omega) A w hT HX.out hA).mono fun e w' h => of_view h
  rw [hL, hp, hz, hR, hm] at hof
  have COF := Lib.hid hof
  have HM := Lib.hid hm
  clear hm hp hz hR hL htwo hof HX
  go_upto_region 4 with (first
      | (go_at_call 5
         refine (few_to X n c A _ ((HN.out.below HB0.out).more HB0.out.size)).mono ?_
         rintro e w1 ⟨b, rfl, hfew, hb⟩
         have HFW : Hid (FewIs n b) := Lib.hid hfew
         have HB1 := Lib.hid (HB0.out.trans (hb.mono HB0.out.size))
         have HV1 := Lib.hid (hb.mono HSZ.out)
         clear hfew hb
         obtain ⟨g0, g1, g2⟩ := Q0.out _ HV1.out
         rcases b with _ | _)
      | (go_at_call 6
         refine (known29 _ (HT.out.below HB1.out HT.out.size)).mono ?_
         rintro e w9 ⟨rfl, hb9⟩)
      | (go_at_call 7
         refine (COF.out _ (HFW.out rfl) (HT.out.below HB1.out HT.out.size) ((HN.out.below HB1.out).more HB1.out.size)).mono ?_
         rintro e w2 ⟨A5, B5, c5, d5, rfl, hr5, hs5, hb⟩
         have HR5 := Lib.hid hr5
         have HS5 := Lib.hid hs5
         have HB2 := Lib.hid (HB1.out.trans (hb.mono HB1.out.size))
         clear hr5 hs5 hb g0 g1 g2))
  · go_ret
    exact ⟨rfl, HB1.out.trans (hb9.mono HB1.out.size)⟩
  · have hn : n ≤ 12 := HFW.out rfl
    have hal := (Below.refl w2.heap.size w2).alloc (Nat.le_refl _) (.cells #[.slice A5 m c5, .slice B5 m d5, .int .i64 R] 33)
    have HPL := Lib.hid (planNew (.slice A5 m c5) (.slice B5 m d5) R 33 w2)
    have HB3 := Lib.hid (HB2.out.trans (hal.mono HB2.out.size))
    replace HR5 := Lib.hid ((HR5.out.below hal).more hal.size)
    replace HS5 := Lib.hid ((HS5.out.below hal).more hal.size)
    have HLT : Hid (w2.heap.size < (w2.alloc (.cells #[.slice A5 m c5, .slice B5 m d5, .int .i64 R] 33)).heap.size) := Lib.hid (by simp)
    clear HB1 HB2 HV1 Q0 HSZ HB0 COF hal
    generalize w2.alloc (.cells #[.slice A5 m c5, .slice B5 m d5, .int .i64 R] 33) = w3 at HPL HB3 HR5 HS5 HLT ⊢
    generalize w2.heap.size = gp at *
    obtain ⟨p0, p1, p2⟩ := HPL.out
    rcases HTW.out with ⟨hz, hm0, hR0⟩ | ⟨hz, ho, hl, hm1, hR1, hp1⟩
    · have hz1 : (z != 0) = true := by simpa using hz
      subst hm0 hR0
      clear hz
      go_wp2_with (go_at_call 6; (refine (known29 _ (HT.out.below HB3.out HT.out.size)).mono ?_); rintro e w9 ⟨rfl, hb9⟩)
      go_ret
      exact ⟨rfl, HB3.out.trans (hb9.mono HB3.out.size)⟩
    · subst hz
      have HM1 := Lib.hid hm1
      have m13 : m ≤ 13 := by omega
      have HRM := Lib.hid hR1
      have HL := Lib.hid hl
      have HOK := Lib.hid ho
      have en : IntKind.i64.wrap ((n : Int) + 1) = (m : Int) := by rw [hm1]; exact IntWalk.i64_in _ (by omega)
      have en2 : (n : Int) + 1 = (m : Int) := by rw [hm1]; omega
      obtain ⟨S, hS⟩ : ∃ S, szF X t0 n = S := ⟨_, rfl⟩
      have HS := Lib.hid hS
      obtain ⟨P, hP⟩ : ∃ P, atF X t0 n = P := ⟨_, rfl⟩
      have HP := Lib.hid hP
      rw [hP] at HS5
      clear HTW ho hl hm1 hR1 hp1 hS hP
      go_wp2_with fail
      clear en en2
      go_loopw [8] (fun u wr => ∃ i : Nat, i ≤ n ∧ u = .int .i64 i ∧ Hid (Below w3.heap.size w3 wr)) (fun u _ => n - (intOf u).toNat)
      case atStart => exact ⟨0, Nat.zero_le _, rfl, Lib.hid (Below.refl _ _)⟩
      case round =>
        obtain ⟨i, hi, rfl, HW⟩ := hrel
        clear p0 p1 p2
        have HPW := Lib.hid (HPL.out.below HLT.out HW.out)
        by_cases hlt : i < n
        · have hmi : i + 1 < m := by have := HM1.out; omega
          obtain ⟨ba, oa, rfl, hba, hra⟩ := HN.out i hlt
          obtain ⟨b5, o5, rfl, x5, h5⟩ := tv_cells HR5.out (by have := HM.out; omega)
          obtain ⟨b7, o7, rfl, x7, h7⟩ := CArena.rd_at HS5.out (by omega)
          obtain ⟨hth, ⟨na0, na1⟩, ⟨nb0, nb1⟩⟩ := ops_in HOK.out hlt
          have ib : (0 : Int) ≤ (i : Int) := by omega
          have i1 : (i : Int) < (n : Int) := by omega
          have HI1 : IntKind.i64.wrap ((i : Int) + 1) = (i : Int) + 1 := IntWalk.i64_in _ (by omega)
          have HND : Hid (∀ wS, Below wr.heap.size wr wS → wS.cell? ⟨ba, oa + i * 19, none⟩ = some (.int .i64 (X i).kd) ∧ wS.cell? ⟨ba, oa + i * 19 + 1, none⟩ = some (.int .i64 (X i).na) ∧ wS.cell? ⟨ba, oa + i * 19 + 2, none⟩ = some (.int .i64 (X i).nb)) :=
            Lib.hid (fun wS h => have hh := HB3.out.trans ((HW.out.trans (h.mono HW.out.size)).mono HB3.out.size); ⟨(hh.cell (p := ⟨ba, oa + i * 19, none⟩) hba).trans (hra 0 _ rfl), (hh.cell (p := ⟨ba, oa + i * 19 + 1, none⟩) hba).trans (hra 1 _ rfl), (hh.cell (p := ⟨ba, oa + i * 19 + 2, none⟩) hba).trans (hra 2 _ rfl)⟩)
          -- the values' cells
          have HSH : Hid (∀ v, v < m → ∃ a : Tri, zak a.1 a.2.1 a.2.2 = S v ∧ ∀ wS, Below w3.heap.size w3 wS → (wS.cell? ⟨b5, o5 + v * 3, none⟩ = some (.int .i64 a.1) ∧ wS.cell? ⟨b5, o5 + v * 3 + 1, none⟩ = some (.int .i64 a.2.1) ∧ wS.cell? ⟨b5, o5 + v * 3 + 2, none⟩ = some (.int .i64 a.2.2))) := Lib.hid (fun v hv => by
            obtain ⟨a, ha, -⟩ := tvV_at (L := L) (k := v) HM.out hv
            have r5 := h5 v a ha
            have hsa := szF_at (show (shL X t0 n)[v]? = some a by rw [← HL.out]; exact ha)
            rw [HS.out] at hsa
            exact ⟨a, hsa, fun wS hh => ⟨(hh.cell (p := ⟨b5, o5 + v * 3, none⟩) x5).trans (r5 0 _ rfl), (hh.cell (p := ⟨b5, o5 + v * 3 + 1, none⟩) x5).trans (r5 1 _ rfl), (hh.cell (p := ⟨b5, o5 + v * 3 + 2, none⟩) x5).trans (r5 2 _ rfl)⟩⟩)
          have HAT : Hid (∀ v, v < m → ∀ wS, Below w3.heap.size w3 wS → wS.cell? ⟨b7, o7 + v, none⟩ = some (.int .i64 (P v))) := Lib.hid (fun v hv wS hh => (hh.cell (p := ⟨b7, o7 + v, none⟩) x7).trans (h7 v hv))
          have HPC : Hid (∀ wS, Below w3.heap.size w3 wS → wS.cell? ⟨gp, 0, none⟩ = some (.slice (some ⟨b5, o5, none⟩) m c5) ∧ wS.cell? ⟨gp, 1, none⟩ = some (.slice (some ⟨b7, o7, none⟩) m d5) ∧ wS.cell? ⟨gp, 2, none⟩ = some (.int .i64 R)) := Lib.hid (fun wS hh => HPL.out.below HLT.out hh)
          obtain ⟨a, hsa, hac⟩ := HSH.out (i + 1) hmi
          have CE := Lib.hid (fun wx : World => refElems_to a.1 a.2.1 a.2.2 (S (i + 1)) hsa wx)
          have HAC := Lib.hid hac
          have hroom := room_num (X := X) (t0 := t0) (n := n) (k := i + 1) (by omega) hn
          rw [HP.out, HS.out, ← HRM.out] at hroom
          obtain ⟨rm1, rm2, rm3⟩ := hroom
          have hs0 : 0 ≤ S (i + 1) := by rw [← HS.out]; exact (szF_bd X t0 n (i + 1)).1
          have HSM : IntKind.i64.wrap (P (i + 1) + S (i + 1)) = P (i + 1) + S (i + 1) := IntWalk.i64_in _ (by omega)
          have HRD : Hid (P (i + 1) + S (i + 1) ≤ R) := Lib.hid rm2
          obtain ⟨y, hy⟩ : ∃ y : Nat, (X i).na = (y : Int) := ⟨(X i).na.toNat, by omega⟩
          obtain ⟨x, hx⟩ : ∃ x : Nat, sndZ (X i) = (x : Int) := ⟨(sndZ (X i)).toNat, by omega⟩
          have hky := apart_num HOK.out hlt (v := y) (.inl hy) (by omega)
          have hkx := apart_num HOK.out hlt (v := x) (.inr hx) (by omega)
          rw [HP.out, HS.out] at hky hkx
          have hyi : y ≤ i := by omega
          have hxi : x ≤ i := by omega
          have hsnd : ((X i).kd = 6 → (X i).nb = (x : Int)) ∧ (¬ (X i).kd = 6 → x = y) := by
            unfold sndZ at hx
            constructor
            · intro h6; rw [if_pos h6] at hx; exact hx
            · intro h6; rw [if_neg h6] at hx; omega
          have HSND := Lib.hid hsnd
          have HKY := Lib.hid hky
          have HKX := Lib.hid hkx
          have HNB := Lib.hid (show ∀ wS, Below wr.heap.size wr wS → wS.cell? ⟨ba, oa + i * 19 + 1, none⟩ = some (.int .i64 (y : Int)) from fun wS h => by rw [← hy]; exact (HND.out wS h).2.1)
          -- one operand against what is made
          have HPAIR : Hid (∀ v : Nat, v ≤ i → ¬ (P v < P (i + 1) + S (i + 1) ∧ P (i + 1) < P v + S v) → ∃ av : Tri, (∀ wx : World, Calls Tryd.prog 9 #[.agg #[.int .i64 av.1, .int .i64 av.2.1, .int .i64 av.2.2]] wx fun e w' => e = .returned (.int .i64 (S v)) ∧ Below wx.heap.size wx w') ∧
              (∀ wS, Below w3.heap.size w3 wS → (wS.cell? ⟨b5, o5 + v * 3, none⟩ = some (.int .i64 av.1) ∧ wS.cell? ⟨b5, o5 + v * 3 + 1, none⟩ = some (.int .i64 av.2.1) ∧ wS.cell? ⟨b5, o5 + v * 3 + 2, none⟩ = some (.int .i64 av.2.2))) ∧ IntKind.i64.wrap (P v + S v) = P v + S v) := Lib.hid (fun v hv _ => by
            obtain ⟨av, hav, hc⟩ := HSH.out v (by omega)
            have hr := room_num (X := X) (t0 := t0) (n := n) (k := v) (by omega) hn
            rw [HP.out, HS.out] at hr
            have h0 : 0 ≤ S v := by rw [← HS.out]; exact (szF_bd X t0 n v).1
            exact ⟨av, fun wx => refElems_to av.1 av.2.1 av.2.2 (S v) hav wx, hc, IntWalk.i64_in _ (by omega)⟩)
          clear hra h5 h7 hsa hac hsnd hky hkx hth rm1 rm2 rm3 hs0 hx hy na0 na1 nb0 nb1 hba x5 x7
          go_upto_region 11 with fail
          refine wp_region_held_drew (S := fun wx => Below wr.heap.size wr wx) (by kernel_rfl) (Below.refl _ _).drew (fun hHeld => ?_)
          generalize wr.drew = W1 at hHeld ⊢
          refine Tk.x 0 rfl ?_
          try simp only [Tk.put]
          refine Tk.x 1 rfl ?_
          try simp only [Tk.put]
          refine Tk.x 2 rfl ?_
          try simp only [Tk.put]
          refine Tk.x 3 rfl ?_
          try simp only [Tk.put]
          refine Tk.y 4 (v := .int .i64 (y : Int)) rfl ?_ ?_
          · intro wS hSw
            have q := HNB.out wS hSw
            first | (go_simp; done) | (go_simp; with_reducible rfl)
          try simp only [Tk.put]
          refine Tk.x 5 rfl ?_
          try simp only [Tk.put]
          refine Tk.x 6 rfl ?_
          try simp only [Tk.put]
          refine Tk.x 7 rfl ?_
          try simp only [Tk.put]
          refine Tk.x 8 rfl ?_
          try simp only [Tk.put]
          refine Tk.y 9 (v := .int .i64 (y : Int)) rfl ?_ ?_
          · intro wS hSw
            have q := HNB.out wS hSw
            first | (go_simp; done) | (go_simp; with_reducible rfl)
          try simp only [Tk.put]
          refine Tk.s 10 rfl (fun Kq hK => ?_)
          go_simp
          have t0' : (W1.alloc (.cells #[.int .i64 (y : Int), .int .i64 (y : Int)] 3)).cell? ⟨W1.heap.size, 0, none⟩ = some (.int .i64 (y : Int)) := Kit.zaf _ _ _ _
          have t1' : (W1.alloc (.cells #[.int .i64 (y : Int), .int .i64 (y : Int)] 3)).cell? ⟨W1.heap.size, 1, none⟩ = some (.int .i64 (y : Int)) := Kit.zaf _ _ _ _
          have tf : (W1.alloc (.cells #[.int .i64 (y : Int), .int .i64 (y : Int)] 3)).frozen? ⟨W1.heap.size, 1, none⟩ = false := World.frozen?_alloc_at _ _ _ _ rfl
          have hgl : W1.heap.size < (W1.alloc (.cells #[.int .i64 (y : Int), .int .i64 (y : Int)] 3)).heap.size := by simp
          have HGT := Lib.hid hHeld.size
          have hS2 := hHeld.alloc hHeld.size (.cells #[.int .i64 (y : Int), .int .i64 (y : Int)] 3)
          clear hHeld
          generalize W1.alloc (.cells #[.int .i64 (y : Int), .int .i64 (y : Int)] 3) = W2 at t0' t1' tf hgl hS2 ⊢
          generalize W1.heap.size = gt at t0' t1' tf hgl HGT ⊢
          refine hK.out _ _ hS2 (fun hHeld => ?_)
          clear hK Kq hS2
          try simp only [Tk.put]
          refine Tk.x 11 rfl ?_
          try simp only [Tk.put]
          refine wpAnyH_done (by kernel_rfl) ?_ _
          have HH := Lib.hid hHeld
          clear hHeld
          obtain ⟨gk, gn, gb⟩ := HND.out _ HH.out
          have hgt : w3.heap.size ≤ gt := Nat.le_trans HW.out.size HGT.out
          by_cases h6 : (X i).kd = 6
          · have h6b : ((X i).kd == 6) = true := by simp [h6]
            have gb2 : W2.cell? ⟨ba, oa + i * 19 + 2, none⟩ = some (.int .i64 (x : Int)) := by rw [gb, HSND.out.1 h6]
            clear gb gn
            go_upto_region 14 with fail
            have HT2 : Hid ((W2.setCell ⟨gt, 1, none⟩ (.int .i64 (x : Int))).cell? ⟨gt, 0, none⟩ = some (.int .i64 (y : Int)) ∧ (W2.setCell ⟨gt, 1, none⟩ (.int .i64 (x : Int))).cell? ⟨gt, 1, none⟩ = some (.int .i64 (x : Int))) := Lib.hid ⟨by go_cell, by go_cell⟩
            have HHW : Hid (Below w3.heap.size w3 (W2.setCell ⟨gt, 1, none⟩ (.int .i64 (x : Int)))) := Lib.hid ((HW.out.trans (HH.out.mono HW.out.size)).setCell (p := ⟨gt, 1, none⟩) hgt _)
            have HLT2 : Hid (gt < (W2.setCell ⟨gt, 1, none⟩ (.int .i64 (x : Int))).heap.size) := Lib.hid (by simpa using hgl)
            clear t0' t1' tf gk gb2 h6 h6b HH HND HNB HSND HGT
            generalize W2.setCell ⟨gt, 1, none⟩ (.int .i64 (x : Int)) = W3 at HT2 HHW HLT2 ⊢
            go_wp2_with fail
            go_loopw [10] (fun u wr => ∃ q : Nat, q ≤ 2 ∧ u = .int .i64 q ∧ Hid (Below (gt + 1) W3 wr)) (fun u _ => 2 - (intOf u).toNat)
            case atStart => exact ⟨0, by omega, rfl, Lib.hid (Below.refl _ _)⟩
            case round =>
              obtain ⟨q, hq, rfl, HW2⟩ := hrel
              have HT3 : Hid (wr.cell? ⟨gt, 0, none⟩ = some (.int .i64 (y : Int)) ∧ wr.cell? ⟨gt, 1, none⟩ = some (.int .i64 (x : Int))) := Lib.hid ⟨(HW2.out.cell (p := ⟨gt, 0, none⟩) (Nat.lt_succ_self _)).trans HT2.out.1, (HW2.out.cell (p := ⟨gt, 1, none⟩) (Nat.lt_succ_self _)).trans HT2.out.2⟩
              rcases (show q = 0 ∨ q = 1 ∨ q = 2 by omega) with rfl | rfl | rfl
              · skip
                obtain ⟨av, hcv, hcc, hw2⟩ := HPAIR.out y hyi HKY.out
                have CV := Lib.hid hcv
                have HCC := Lib.hid hcc
                have hvm : y < m := by omega
                have v0 : ¬ (y : Int) < 0 := by omega
                have v1 : ¬ (i : Int) < (y : Int) := by omega
                have v2 : (0 : Int) ≤ (y : Int) := by omega
                have v3 : (y : Int) < (m : Int) := by omega
                have d0 : decide ((y : Int) < 0) = false := by simp
                have d1 : decide ((i : Int) < (y : Int)) = false := by simp; omega
                obtain ⟨c0, c1, c2⟩ := HPC.out wr (HHW.out.trans (HW2.out.mono (by have := HHW.out.size; omega)))
                have c3 := HAT.out y hvm wr (HHW.out.trans (HW2.out.mono (by have := HHW.out.size; omega)))
                have c4 := HAT.out (i + 1) hmi wr (HHW.out.trans (HW2.out.mono (by have := HHW.out.size; omega)))
                obtain ⟨t0, t1⟩ := HT3.out
                clear hcv hcc
                go_wp2_with fail
                go_quiet (fail)
                replace HW2 := Lib.hid (Kit.below_drewN HW2.out nq)
                have HWW := Lib.hid (HHW.out.trans (HW2.out.mono (by have := HHW.out.size; omega)))
                clear c0 c1 c2 c3 c4 t0 t1 HT3
                generalize wr.drewN nq = W4 at HW2 HWW ⊢
                obtain ⟨c0, c1, c2⟩ := HPC.out W4 HWW.out
                obtain ⟨e0, e1, e2⟩ := HAC.out W4 HWW.out
                by_cases hl : P y < P (i + 1) + S (i + 1)
                · have hlb : decide (P y < P (i + 1) + S (i + 1)) = true := by simp [hl]
                  have hl2 : ¬ P (i + 1) < P y + S y := fun h => HKY.out ⟨hl, h⟩
                  have hl2b : decide (P (i + 1) < P y + S y) = false := by simp [hl2]
                  go_wp2_with fail
                  go_at_call 9
                  refine (CE.out _).mono ?_
                  rintro e w5 ⟨rfl, hb5⟩
                  have HW5 := Lib.hid (HW2.out.trans (hb5.mono (Nat.le_trans (by have := HLT2.out; omega) HW2.out.size)))
                  have HWW5 := Lib.hid (HWW.out.trans (hb5.mono HWW.out.size))
                  clear hb5 c0 c1 c2 e0 e1 e2
                  obtain ⟨c0, c1, c2⟩ := HPC.out w5 HWW5.out
                  obtain ⟨f0, f1, f2⟩ := HCC.out w5 HWW5.out
                  go_wp2_with fail
                  go_at_call 9
                  refine (CV.out _).mono ?_
                  rintro e w6 ⟨rfl, hb6⟩
                  have HW6 := Lib.hid (HW5.out.trans (hb6.mono (Nat.le_trans (by have := HLT2.out; omega) HW5.out.size)))
                  clear hb6 c0 c1 c2 f0 f1 f2
                  go_wp2_with fail
                  go_roundw
                  case rel => exact ⟨0 + 1, by omega, by go_num, HW6⟩
                  case measure => first | (simp [intOf]; done) | (simp [intOf]; omega)
                · have hlb : decide (P y < P (i + 1) + S (i + 1)) = false := by simp [hl]
                  go_wp2_with fail
                  go_at_call 9
                  refine (CE.out _).mono ?_
                  rintro e w5 ⟨rfl, hb5⟩
                  have HW5 := Lib.hid (HW2.out.trans (hb5.mono (Nat.le_trans (by have := HLT2.out; omega) HW2.out.size)))
                  clear hb5 c0 c1 c2 e0 e1 e2
                  go_wp2_with fail
                  go_roundw
                  case rel => exact ⟨0 + 1, by omega, by go_num, HW5⟩
                  case measure => first | (simp [intOf]; done) | (simp [intOf]; omega)
              · skip
                obtain ⟨av, hcv, hcc, hw2⟩ := HPAIR.out x hxi HKX.out
                have CV := Lib.hid hcv
                have HCC := Lib.hid hcc
                have hvm : x < m := by omega
                have v0 : ¬ (x : Int) < 0 := by omega
                have v1 : ¬ (i : Int) < (x : Int) := by omega
                have v2 : (0 : Int) ≤ (x : Int) := by omega
                have v3 : (x : Int) < (m : Int) := by omega
                have d0 : decide ((x : Int) < 0) = false := by simp
                have d1 : decide ((i : Int) < (x : Int)) = false := by simp; omega
                obtain ⟨c0, c1, c2⟩ := HPC.out wr (HHW.out.trans (HW2.out.mono (by have := HHW.out.size; omega)))
                have c3 := HAT.out x hvm wr (HHW.out.trans (HW2.out.mono (by have := HHW.out.size; omega)))
                have c4 := HAT.out (i + 1) hmi wr (HHW.out.trans (HW2.out.mono (by have := HHW.out.size; omega)))
                obtain ⟨t0, t1⟩ := HT3.out
                clear hcv hcc
                go_wp2_with fail
                go_quiet (fail)
                replace HW2 := Lib.hid (Kit.below_drewN HW2.out nq)
                have HWW := Lib.hid (HHW.out.trans (HW2.out.mono (by have := HHW.out.size; omega)))
                clear c0 c1 c2 c3 c4 t0 t1 HT3
                generalize wr.drewN nq = W4 at HW2 HWW ⊢
                obtain ⟨c0, c1, c2⟩ := HPC.out W4 HWW.out
                obtain ⟨e0, e1, e2⟩ := HAC.out W4 HWW.out
                by_cases hl : P x < P (i + 1) + S (i + 1)
                · have hlb : decide (P x < P (i + 1) + S (i + 1)) = true := by simp [hl]
                  have hl2 : ¬ P (i + 1) < P x + S x := fun h => HKX.out ⟨hl, h⟩
                  have hl2b : decide (P (i + 1) < P x + S x) = false := by simp [hl2]
                  go_wp2_with fail
                  go_at_call 9
                  refine (CE.out _).mono ?_
                  rintro e w5 ⟨rfl, hb5⟩
                  have HW5 := Lib.hid (HW2.out.trans (hb5.mono (Nat.le_trans (by have := HLT2.out; omega) HW2.out.size)))
                  have HWW5 := Lib.hid (HWW.out.trans (hb5.mono HWW.out.size))
                  clear hb5 c0 c1 c2 e0 e1 e2
                  obtain ⟨c0, c1, c2⟩ := HPC.out w5 HWW5.out
                  obtain ⟨f0, f1, f2⟩ := HCC.out w5 HWW5.out
                  go_wp2_with fail
                  go_at_call 9
                  refine (CV.out _).mono ?_
                  rintro e w6 ⟨rfl, hb6⟩
                  have HW6 := Lib.hid (HW5.out.trans (hb6.mono (Nat.le_trans (by have := HLT2.out; omega) HW5.out.size)))
                  clear hb6 c0 c1 c2 f0 f1 f2
                  go_wp2_with fail
                  go_roundw
                  case rel => exact ⟨1 + 1, by omega, by go_num, HW6⟩
                  case measure => first | (simp [intOf]; done) | (simp [intOf]; omega)
                · have hlb : decide (P x < P (i + 1) + S (i + 1)) = false := by simp [hl]
                  go_wp2_with fail
                  go_at_call 9
                  refine (CE.out _).mono ?_
                  rintro e w5 ⟨rfl, hb5⟩
                  have HW5 := Lib.hid (HW2.out.trans (hb5.mono (Nat.le_trans (by have := HLT2.out; omega) HW2.out.size)))
                  clear hb5 c0 c1 c2 e0 e1 e2
                  go_wp2_with fail
                  go_roundw
                  case rel => exact ⟨1 + 1, by omega, by go_num, HW5⟩
                  case measure => first | (simp [intOf]; done) | (simp [intOf]; omega)
              · have HWW := Lib.hid (HHW.out.trans (HW2.out.mono (by have := HHW.out.size; omega)))
                obtain ⟨c0, c1, c2⟩ := HPC.out wr HWW.out
                have hgtr : decide (R < P (i + 1) + S (i + 1)) = false := by have := HRD.out; simp; omega
                have HGR := Lib.hid hgtr
                clear hgtr
                go_upto_region 23 with fail
                refine wp_region_held_drew (S := fun wx => Below wr.heap.size wr wx) (by kernel_rfl) (Below.refl _ _).drew (fun hHeld => ?_)
                have HF : Hid (∀ wS, Below wr.heap.size wr wS → Below w3.heap.size w3 wS) := Lib.hid (fun wS h => HWW.out.trans (h.mono HWW.out.size))
                clear c0 c1 c2
                generalize wr.drew = W1 at hHeld ⊢
                refine Tk.x 0 rfl ?_
                try simp only [Tk.put]
                refine Tk.y 1 (v := .slice (some ⟨b7, o7, none⟩) m d5) rfl ?_ ?_
                · intro wS hSw
                  obtain ⟨c0, c1, c2⟩ := HPC.out wS (HF.out wS hSw)
                  first | (go_simp; done) | (go_simp; with_reducible rfl)
                try simp only [Tk.put]
                refine Tk.x 2 rfl ?_
                try simp only [Tk.put]
                refine Tk.y 3 (v := .int .i64 ((i : Int) + 1)) rfl ?_ ?_
                · intro wS hSw
                  first | (go_simp; done) | (go_simp; with_reducible rfl)
                try simp only [Tk.put]
                refine Tk.y 4 (v := .pointer (some ⟨b7, o7 + (i + 1), none⟩)) rfl ?_ ?_
                · intro wS hSw
                  have u1 : (0 : Int) ≤ (i : Int) + 1 := by omega
                  have u2 : (i : Int) + 1 < (m : Int) := by omega
                  have u3 : ((i : Int) + 1).toNat = i + 1 := by omega
                  first | (go_simp; done) | (go_simp; with_reducible rfl)
                try simp only [Tk.put]
                refine Tk.y 5 (v := .int .i64 (P (i + 1))) rfl ?_ ?_
                · intro wS hSw
                  have q := HAT.out (i + 1) hmi wS (HF.out wS hSw)
                  first | (go_simp; done) | (go_simp; with_reducible rfl)
                try simp only [Tk.put]
                refine Tk.x 6 rfl ?_
                try simp only [Tk.put]
                refine Tk.y 7 (v := .slice (some ⟨b5, o5, none⟩) m c5) rfl ?_ ?_
                · intro wS hSw
                  obtain ⟨c0, c1, c2⟩ := HPC.out wS (HF.out wS hSw)
                  first | (go_simp; done) | (go_simp; with_reducible rfl)
                try simp only [Tk.put]
                refine Tk.x 8 rfl ?_
                try simp only [Tk.put]
                refine Tk.y 9 (v := .int .i64 ((i : Int) + 1)) rfl ?_ ?_
                · intro wS hSw
                  first | (go_simp; done) | (go_simp; with_reducible rfl)
                try simp only [Tk.put]
                refine Tk.y 10 (v := .pointer (some ⟨b5, o5 + (i + 1) * 3, none⟩)) rfl ?_ ?_
                · intro wS hSw
                  have u1 : (0 : Int) ≤ (i : Int) + 1 := by omega
                  have u2 : (i : Int) + 1 < (m : Int) := by omega
                  have u3 : ((i : Int) + 1).toNat = i + 1 := by omega
                  first | (go_simp; done) | (go_simp; with_reducible rfl)
                try simp only [Tk.put]
                refine Tk.y 11 (v := .agg #[.int .i64 a.1, .int .i64 a.2.1, .int .i64 a.2.2]) rfl ?_ ?_
                · intro wS hSw
                  obtain ⟨q0, q1, q2⟩ := HAC.out wS (HF.out wS hSw)
                  first | (go_simp; done) | (go_simp; with_reducible rfl)
                try simp only [Tk.put]
                refine Tk.x 14 rfl ?_
                try simp only [Tk.put]
                refine Tk.y 15 (v := .int .i64 R) rfl ?_ ?_
                · intro wS hSw
                  obtain ⟨c0, c1, c2⟩ := HPC.out wS (HF.out wS hSw)
                  first | (go_simp; done) | (go_simp; with_reducible rfl)
                try simp only [Tk.put]
                refine Tk.s 12 rfl (fun Kq hK => ?_)
                go_simp
                go_at_call 9
                refine (CE.out _).mono ?_
                rintro e W2' ⟨rfl, hb⟩
                have hS2 := hHeld.trans (hb.mono hHeld.size)
                clear hHeld hb
                dsimp only
                refine hK.out _ _ hS2 (fun hHeld => ?_)
                clear hK Kq hS2
                try simp only [Tk.put]
                refine Tk.y 13 (v := .int .i64 (P (i + 1) + S (i + 1))) rfl ?_ ?_
                · intro wS hSw
                  first | (go_simp; done) | (go_simp; with_reducible rfl)
                try simp only [Tk.put]
                refine Tk.y 16 (v := .bool false) rfl ?_ ?_
                · intro wS hSw
                  have q := HGR.out
                  first | (go_simp; done) | (go_simp; with_reducible rfl)
                try simp only [Tk.put]
                refine wpAnyH_done (by kernel_rfl) ?_ _
                go_wp2_with fail
                go_roundw
                case rel => exact ⟨i + 1, by omega, by go_num, Lib.hid (HF.out _ hHeld)⟩
                case measure => simp [intOf]; omega
          · have h6b : ((X i).kd == 6) = false := by simp [h6]
            have hxy : x = y := HSND.out.2 h6
            go_upto_region 14 with fail
            have HT2 : Hid (W2.cell? ⟨gt, 0, none⟩ = some (.int .i64 (y : Int)) ∧ W2.cell? ⟨gt, 1, none⟩ = some (.int .i64 (x : Int))) := Lib.hid ⟨t0', by rw [hxy]; exact t1'⟩
            have HHW : Hid (Below w3.heap.size w3 W2) := Lib.hid (HW.out.trans (HH.out.mono HW.out.size))
            have HLT2 : Hid (gt < W2.heap.size) := Lib.hid hgl
            clear t0' t1' tf gk gn gb h6 h6b HH HND HNB HSND HGT hxy
            generalize W2 = W3 at HT2 HHW HLT2 ⊢
            go_wp2_with fail
            go_loopw [10] (fun u wr => ∃ q : Nat, q ≤ 2 ∧ u = .int .i64 q ∧ Hid (Below (gt + 1) W3 wr)) (fun u _ => 2 - (intOf u).toNat)
            case atStart => exact ⟨0, by omega, rfl, Lib.hid (Below.refl _ _)⟩
            case round =>
              obtain ⟨q, hq, rfl, HW2⟩ := hrel
              have HT3 : Hid (wr.cell? ⟨gt, 0, none⟩ = some (.int .i64 (y : Int)) ∧ wr.cell? ⟨gt, 1, none⟩ = some (.int .i64 (x : Int))) := Lib.hid ⟨(HW2.out.cell (p := ⟨gt, 0, none⟩) (Nat.lt_succ_self _)).trans HT2.out.1, (HW2.out.cell (p := ⟨gt, 1, none⟩) (Nat.lt_succ_self _)).trans HT2.out.2⟩
              rcases (show q = 0 ∨ q = 1 ∨ q = 2 by omega) with rfl | rfl | rfl
              · skip
                obtain ⟨av, hcv, hcc, hw2⟩ := HPAIR.out y hyi HKY.out
                have CV := Lib.hid hcv
                have HCC := Lib.hid hcc
                have hvm : y < m := by omega
                have v0 : ¬ (y : Int) < 0 := by omega
                have v1 : ¬ (i : Int) < (y : Int) := by omega
                have v2 : (0 : Int) ≤ (y : Int) := by omega
                have v3 : (y : Int) < (m : Int) := by omega
                have d0 : decide ((y : Int) < 0) = false := by simp
                have d1 : decide ((i : Int) < (y : Int)) = false := by simp; omega
                obtain ⟨c0, c1, c2⟩ := HPC.out wr (HHW.out.trans (HW2.out.mono (by have := HHW.out.size; omega)))
                have c3 := HAT.out y hvm wr (HHW.out.trans (HW2.out.mono (by have := HHW.out.size; omega)))
                have c4 := HAT.out (i + 1) hmi wr (HHW.out.trans (HW2.out.mono (by have := HHW.out.size; omega)))
                obtain ⟨t0, t1⟩ := HT3.out
                clear hcv hcc
                go_wp2_with fail
                go_quiet (fail)
                replace HW2 := Lib.hid (Kit.below_drewN HW2.out nq)
                have HWW := Lib.hid (HHW.out.trans (HW2.out.mono (by have := HHW.out.size; omega)))
                clear c0 c1 c2 c3 c4 t0 t1 HT3
                generalize wr.drewN nq = W4 at HW2 HWW ⊢
                obtain ⟨c0, c1, c2⟩ := HPC.out W4 HWW.out
                obtain ⟨e0, e1, e2⟩ := HAC.out W4 HWW.out
                by_cases hl : P y < P (i + 1) + S (i + 1)
                · have hlb : decide (P y < P (i + 1) + S (i + 1)) = true := by simp [hl]
                  have hl2 : ¬ P (i + 1) < P y + S y := fun h => HKY.out ⟨hl, h⟩
                  have hl2b : decide (P (i + 1) < P y + S y) = false := by simp [hl2]
                  go_wp2_with fail
                  go_at_call 9
                  refine (CE.out _).mono ?_
                  rintro e w5 ⟨rfl, hb5⟩
                  have HW5 := Lib.hid (HW2.out.trans (hb5.mono (Nat.le_trans (by have := HLT2.out; omega) HW2.out.size)))
                  have HWW5 := Lib.hid (HWW.out.trans (hb5.mono HWW.out.size))
                  clear hb5 c0 c1 c2 e0 e1 e2
                  obtain ⟨c0, c1, c2⟩ := HPC.out w5 HWW5.out
                  obtain ⟨f0, f1, f2⟩ := HCC.out w5 HWW5.out
                  go_wp2_with fail
                  go_at_call 9
                  refine (CV.out _).mono ?_
                  rintro e w6 ⟨rfl, hb6⟩
                  have HW6 := Lib.hid (HW5.out.trans (hb6.mono (Nat.le_trans (by have := HLT2.out; omega) HW5.out.size)))
                  clear hb6 c0 c1 c2 f0 f1 f2
                  go_wp2_with fail
                  go_roundw
                  case rel => exact ⟨0 + 1, by omega, by go_num, HW6⟩
                  case measure => first | (simp [intOf]; done) | (simp [intOf]; omega)
                · have hlb : decide (P y < P (i + 1) + S (i + 1)) = false := by simp [hl]
                  go_wp2_with fail
                  go_at_call 9
                  refine (CE.out _).mono ?_
                  rintro e w5 ⟨rfl, hb5⟩
                  have HW5 := Lib.hid (HW2.out.trans (hb5.mono (Nat.le_trans (by have := HLT2.out; omega) HW2.out.size)))
                  clear hb5 c0 c1 c2 e0 e1 e2
                  go_wp2_with fail
                  go_roundw
                  case rel => exact ⟨0 + 1, by omega, by go_num, HW5⟩
                  case measure => first | (simp [intOf]; done) | (simp [intOf]; omega)
              · skip
                obtain ⟨av, hcv, hcc, hw2⟩ := HPAIR.out x hxi HKX.out
                have CV := Lib.hid hcv
                have HCC := Lib.hid hcc
                have hvm : x < m := by omega
                have v0 : ¬ (x : Int) < 0 := by omega
                have v1 : ¬ (i : Int) < (x : Int) := by omega
                have v2 : (0 : Int) ≤ (x : Int) := by omega
                have v3 : (x : Int) < (m : Int) := by omega
                have d0 : decide ((x : Int) < 0) = false := by simp
                have d1 : decide ((i : Int) < (x : Int)) = false := by simp; omega
                obtain ⟨c0, c1, c2⟩ := HPC.out wr (HHW.out.trans (HW2.out.mono (by have := HHW.out.size; omega)))
                have c3 := HAT.out x hvm wr (HHW.out.trans (HW2.out.mono (by have := HHW.out.size; omega)))
                have c4 := HAT.out (i + 1) hmi wr (HHW.out.trans (HW2.out.mono (by have := HHW.out.size; omega)))
                obtain ⟨t0, t1⟩ := HT3.out
                clear hcv hcc
                go_wp2_with fail
                go_quiet (fail)
                replace HW2 := Lib.hid (Kit.below_drewN HW2.out nq)
                have HWW := Lib.hid (HHW.out.trans (HW2.out.mono (by have := HHW.out.size; omega)))
                clear c0 c1 c2 c3 c4 t0 t1 HT3
                generalize wr.drewN nq = W4 at HW2 HWW ⊢
                obtain ⟨c0, c1, c2⟩ := HPC.out W4 HWW.out
                obtain ⟨e0, e1, e2⟩ := HAC.out W4 HWW.out
                by_cases hl : P x < P (i + 1) + S (i + 1)
                · have hlb : decide (P x < P (i + 1) + S (i + 1)) = true := by simp [hl]
                  have hl2 : ¬ P (i + 1) < P x + S x := fun h => HKX.out ⟨hl, h⟩
                  have hl2b : decide (P (i + 1) < P x + S x) = false := by simp [hl2]
                  go_wp2_with fail
                  go_at_call 9
                  refine (CE.out _).mono ?_
                  rintro e w5 ⟨rfl, hb5⟩
                  have HW5 := Lib.hid (HW2.out.trans (hb5.mono (Nat.le_trans (by have := HLT2.out; omega) HW2.out.size)))
                  have HWW5 := Lib.hid (HWW.out.trans (hb5.mono HWW.out.size))
                  clear hb5 c0 c1 c2 e0 e1 e2
                  obtain ⟨c0, c1, c2⟩ := HPC.out w5 HWW5.out
                  obtain ⟨f0, f1, f2⟩ := HCC.out w5 HWW5.out
                  go_wp2_with fail
                  go_at_call 9
                  refine (CV.out _).mono ?_
                  rintro e w6 ⟨rfl, hb6⟩
                  have HW6 := Lib.hid (HW5.out.trans (hb6.mono (Nat.le_trans (by have := HLT2.out; omega) HW5.out.size)))
                  clear hb6 c0 c1 c2 f0 f1 f2
                  go_wp2_with fail
                  go_roundw
                  case rel => exact ⟨1 + 1, by omega, by go_num, HW6⟩
                  case measure => first | (simp [intOf]; done) | (simp [intOf]; omega)
                · have hlb : decide (P x < P (i + 1) + S (i + 1)) = false := by simp [hl]
                  go_wp2_with fail
                  go_at_call 9
                  refine (CE.out _).mono ?_
                  rintro e w5 ⟨rfl, hb5⟩
                  have HW5 := Lib.hid (HW2.out.trans (hb5.mono (Nat.le_trans (by have := HLT2.out; omega) HW2.out.size)))
                  clear hb5 c0 c1 c2 e0 e1 e2
                  go_wp2_with fail
                  go_roundw
                  case rel => exact ⟨1 + 1, by omega, by go_num, HW5⟩
                  case measure => first | (simp [intOf]; done) | (simp [intOf]; omega)
              · have HWW := Lib.hid (HHW.out.trans (HW2.out.mono (by have := HHW.out.size; omega)))
                obtain ⟨c0, c1, c2⟩ := HPC.out wr HWW.out
                have hgtr : decide (R < P (i + 1) + S (i + 1)) = false := by have := HRD.out; simp; omega
                have HGR := Lib.hid hgtr
                clear hgtr
                go_upto_region 23 with fail
                refine wp_region_held_drew (S := fun wx => Below wr.heap.size wr wx) (by kernel_rfl) (Below.refl _ _).drew (fun hHeld => ?_)
                have HF : Hid (∀ wS, Below wr.heap.size wr wS → Below w3.heap.size w3 wS) := Lib.hid (fun wS h => HWW.out.trans (h.mono HWW.out.size))
                clear c0 c1 c2
                generalize wr.drew = W1 at hHeld ⊢
                refine Tk.x 0 rfl ?_
                try simp only [Tk.put]
                refine Tk.y 1 (v := .slice (some ⟨b7, o7, none⟩) m d5) rfl ?_ ?_
                · intro wS hSw
                  obtain ⟨c0, c1, c2⟩ := HPC.out wS (HF.out wS hSw)
                  first | (go_simp; done) | (go_simp; with_reducible rfl)
                try simp only [Tk.put]
                refine Tk.x 2 rfl ?_
                try simp only [Tk.put]
                refine Tk.y 3 (v := .int .i64 ((i : Int) + 1)) rfl ?_ ?_
                · intro wS hSw
                  first | (go_simp; done) | (go_simp; with_reducible rfl)
                try simp only [Tk.put]
                refine Tk.y 4 (v := .pointer (some ⟨b7, o7 + (i + 1), none⟩)) rfl ?_ ?_
                · intro wS hSw
                  have u1 : (0 : Int) ≤ (i : Int) + 1 := by omega
                  have u2 : (i : Int) + 1 < (m : Int) := by omega
                  have u3 : ((i : Int) + 1).toNat = i + 1 := by omega
                  first | (go_simp; done) | (go_simp; with_reducible rfl)
                try simp only [Tk.put]
                refine Tk.y 5 (v := .int .i64 (P (i + 1))) rfl ?_ ?_
                · intro wS hSw
                  have q := HAT.out (i + 1) hmi wS (HF.out wS hSw)
                  first | (go_simp; done) | (go_simp; with_reducible rfl)
                try simp only [Tk.put]
                refine Tk.x 6 rfl ?_
                try simp only [Tk.put]
                refine Tk.y 7 (v := .slice (some ⟨b5, o5, none⟩) m c5) rfl ?_ ?_
                · intro wS hSw
                  obtain ⟨c0, c1, c2⟩ := HPC.out wS (HF.out wS hSw)
                  first | (go_simp; done) | (go_simp; with_reducible rfl)
                try simp only [Tk.put]
                refine Tk.x 8 rfl ?_
                try simp only [Tk.put]
                refine Tk.y 9 (v := .int .i64 ((i : Int) + 1)) rfl ?_ ?_
                · intro wS hSw
                  first | (go_simp; done) | (go_simp; with_reducible rfl)
                try simp only [Tk.put]
                refine Tk.y 10 (v := .pointer (some ⟨b5, o5 + (i + 1) * 3, none⟩)) rfl ?_ ?_
                · intro wS hSw
                  have u1 : (0 : Int) ≤ (i : Int) + 1 := by omega
                  have u2 : (i : Int) + 1 < (m : Int) := by omega
                  have u3 : ((i : Int) + 1).toNat = i + 1 := by omega
                  first | (go_simp; done) | (go_simp; with_reducible rfl)
                try simp only [Tk.put]
                refine Tk.y 11 (v := .agg #[.int .i64 a.1, .int .i64 a.2.1, .int .i64 a.2.2]) rfl ?_ ?_
                · intro wS hSw
                  obtain ⟨q0, q1, q2⟩ := HAC.out wS (HF.out wS hSw)
                  first | (go_simp; done) | (go_simp; with_reducible rfl)
                try simp only [Tk.put]
                refine Tk.x 14 rfl ?_
                try simp only [Tk.put]
                refine Tk.y 15 (v := .int .i64 R) rfl ?_ ?_
                · intro wS hSw
                  obtain ⟨c0, c1, c2⟩ := HPC.out wS (HF.out wS hSw)
                  first | (go_simp; done) | (go_simp; with_reducible rfl)
                try simp only [Tk.put]
                refine Tk.s 12 rfl (fun Kq hK => ?_)
                go_simp
                go_at_call 9
                refine (CE.out _).mono ?_
                rintro e W2' ⟨rfl, hb⟩
                have hS2 := hHeld.trans (hb.mono hHeld.size)
                clear hHeld hb
                dsimp only
                refine hK.out _ _ hS2 (fun hHeld => ?_)
                clear hK Kq hS2
                try simp only [Tk.put]
                refine Tk.y 13 (v := .int .i64 (P (i + 1) + S (i + 1))) rfl ?_ ?_
                · intro wS hSw
                  first | (go_simp; done) | (go_simp; with_reducible rfl)
                try simp only [Tk.put]
                refine Tk.y 16 (v := .bool false) rfl ?_ ?_
                · intro wS hSw
                  have q := HGR.out
                  first | (go_simp; done) | (go_simp; with_reducible rfl)
                try simp only [Tk.put]
                refine wpAnyH_done (by kernel_rfl) ?_ _
                go_wp2_with fail
                go_roundw
                case rel => exact ⟨i + 1, by omega, by go_num, Lib.hid (HF.out _ hHeld)⟩
                case measure => simp [intOf]; omega
        · obtain rfl : i = n := by omega
          go_wp2_with (go_at_call 6; (refine (known29 _ (HT.out.below (HB3.out.trans (HW.out.mono HB3.out.size)) HT.out.size)).mono ?_); rintro e w9 ⟨rfl, hb9⟩)
          go_ret
          exact ⟨rfl, HB3.out.trans ((HW.out.trans (hb9.mono HW.out.size)).mono HB3.out.size)⟩
theorem walk {w : World} (A : Option Addr) (X : Nat → Nd) (n c : Nat) (hc : n ≤ c) (hm : c ≤ maxLen) (hN : zaq w w.heap.size A n X) (hO : ∀ j, j < n → NdOk w w.heap.size (X j)) (H : Int) (wH : (Lit.int .i64 H).wf = true) (W : Int) (wW : (Lit.int .i64 W).wf = true) (C : Int) (wC : (Lit.int .i64 C).wf = true) (hT : zam w) :
    Calls Tryd.prog 4 #[.slice A n c, .agg #[.int .i64 H, .int .i64 W, .int .i64 C]] w fun e w' => e = .returned (.bool true) ∧ Below w.heap.size w w' :=
  walk_all X A n c hN (fun j hj => node_small (hO j hj)) (H, W, C) hT
/-! ### the frame: written by program -/
theorem own : ownKnob Tryd.prog.godebug = none := by kernel_rfl
theorem laid : laidOutB Tryd.prog = true := by kernel_rfl
theorem contract {H : Type} {enc : TypeId × Value → H} {W : World} {base : Nat} {args : Array Value} {ds gs : List (DataW H)} {before : List MemPlace}
    (hval0 : ∀ (j : Nat) t v, Tryd.f4.params[j]? = some t → args[j]? = some v → Value.okWide Tryd.prog W .any base t v)
    (hW : DataW.Whole enc Tryd.prog Tryd.f4.params.toList Rows.slabApartSpec.vars false W args.toList ds gs before)
    (hL : laidMetH Tryd.prog [("stepwell/kinds.names", Rows.laid_stepwell_kinds_names)] W) :
    Calls Tryd.prog 4 args W fun e W' => e = .returned (.bool true) ∧ Below W.heap.size W W' := by
  have hval : ∀ (j : Nat) t v, Tryd.f4.params[j]? = some t → args[j]? = some v → Value.okWide Tryd.prog W .any base t v := hval0
  obtain ⟨p, q, hA0, hV, rfl, hfz, hnd⟩ := hW
  have hA : DataW.TrodAll enc Tryd.prog W 0 (fun _ => true) true Tryd.f4.params.toList args.toList ds p := hA0
  rw [Tryd.params4] at hA hval
  obtain ⟨v0, vs0, d0, ds0, p0, q0, hargs, rfl, rfl, h0, r0⟩ := trodAll_cons hA
  obtain ⟨v1, vs1, d1, ds1, p1, q1, rfl, rfl, rfl, h1, r1⟩ := trodAll_cons r0
  obtain ⟨rfl, rfl, rfl⟩ := trodAll_nil r1
  obtain rfl : args = #[v0, v1] := by cases args; simp_all
  clear hA0 hval0
  obtain ⟨A0, X0, n0, c0, rfl, hc0, hm0, hN0, hO0⟩ := CGraph.open_nodes (hval 0 22 v0 rfl rfl) h0
  obtain ⟨cs1, rfl, hs1, hf1⟩ := Kit.open_flat Tryd.underlying24 (by kernel_rfl) (by kernel_rfl) (hval 1 24 v1 rfl rfl) h1
  obtain ⟨u1_0, u1_1, u1_2, rfl⟩ := Kit.size_3 hs1
  obtain ⟨a1_0, rfl, w1_0⟩ := Kit.flat_int Tryd.underlying3 (v := u1_0) rfl (hf1 0 _ rfl)
  obtain ⟨a1_1, rfl, w1_1⟩ := Kit.flat_int Tryd.underlying3 (v := u1_1) rfl (hf1 1 _ rfl)
  obtain ⟨a1_2, rfl, w1_2⟩ := Kit.flat_int Tryd.underlying3 (v := u1_2) rfl (hf1 2 _ rfl)
  exact walk (w := W) A0 X0 n0 c0 hc0 hm0 hN0 hO0 a1_0 w1_0 a1_1 w1_1 a1_2 w1_2 (of_laid hL)
theorem fnIs {H : Type} : ∀ ds : List (DataW H), ds.length = Tryd.f4.params.toList.length → Rows.slabApartSpec.fn H ds = { results := [.lit (.bool true)], args := ds } := by
  intro ds h
  rw [Tryd.params4] at h
  match ds, h with
  | [d1, d2], _ => rfl
theorem door_met (os : Os) (args : Array Value) : laidMetH Tryd.prog [("stepwell/kinds.names", Rows.laid_stepwell_kinds_names)] ((World.doorLaid Tryd.prog 400 os).forCall (fun _ _ => 0) ⟨#[], args, []⟩).memory :=
  laidMetH_of_parts3 (fuel := 8) (laidMet_of_run' 8 (by kernel_rfl) (by kernel_rfl)) (by kernel_rfl) (by kernel_rfl)
set_option maxRecDepth 100000 in
theorem lifted (os : Os) (started : os.Started) (H : Type) (enc : TypeId × Value → H) :
    ReturnsInHanded {} Tryd.checked os 4 .any (fun w args => (Rows.slabApartSpec.pre enc Tryd.prog Tryd.f4 [] false w args ∧ laidMetH Tryd.prog [("stepwell/kinds.names", Rows.laid_stepwell_kinds_names)] w) ∧ sizedMet enc Tryd.prog Tryd.f4 (OpenSpec.ofChange Rows.slabApartSpec) false w args) (Rows.slabApartSpec.post enc Tryd.prog Tryd.f4 false true false false) := by
  refine returnsInHanded_of_change_and (C := Tryd.checked) (X := fun w _ => laidMetH Tryd.prog [("stepwell/kinds.names", Rows.laid_stepwell_kinds_names)] w) (fun _ _ _ hh h => h.of_heap hh) own started (by kernel_rfl) Tryd.func4
    (ChangeSpec.witness_shaped (enc := enc) (C := Tryd.checked) (os := os) (X := fun w _ => laidMetH Tryd.prog [("stepwell/kinds.names", Rows.laid_stepwell_kinds_names)] w) false (World.doorLaid Tryd.prog 400 os) #[.slice none 0 0, .agg #[.int .i64 0, .int .i64 0, .int .i64 0]] 8 rfl (World.shaped_of_RefB (by kernel_rfl) (by kernel_rfl)) (by kernel_rfl) (by kernel_rfl) (by kernel_rfl) (door_met os _)) ?_
  intro W base args ds gs before hval hW _ _ hL _
  refine (contract hval hW hL).mono fun e W' ⟨he, hg⟩ => ?_
  subst he
  exact ⟨_, rfl, Kit.law_post (tb := 4) laid (by kernel_rfl) rfl (by kernel_rfl) Tryd.underlying4 fnIs hW hg⟩
theorem over : Rows.slabApartRow.holds Tryd.pinned (OpenSpec.ofChange Rows.slabApartSpec) :=
  OpenClaim.holds_of_wide 4 Tryd.f4 rfl rfl rfl rfl rfl rfl rfl ⟨rfl, rfl, rfl, rfl, rfl⟩ rfl rfl rfl rfl rfl (by kernel_rfl) Tryd.func4 (by kernel_rfl)
    (of_decide_eq_true (by kernel_rfl)) (by unfold Func.isWrapper; first | (rw [if_pos (by decide +kernel)]; kernel_rfl) | (rw [if_neg (by decide +kernel)]; exact ⟨rfl, rfl⟩))
    (fun os started H enc _ => lifted os started H enc)
/-- the statement: the tied card. -/
theorem proved : Rows.SlabApartCardSaid :=
  Claim7.holds_tied_plain_at .later [] [.data] true (true, "c38b4bc66ac3a8eaf2fcc18e5651867216ca20c91943c173565078be31442695") false
    over (fun _ h => by cases h) (by kernel_rfl) (fun _ h => by cases h) slabApart_row_tie rfl ⟨rfl, rfl⟩ (by kernel_rfl) rfl
    (fun f fn hf hfn => by
      obtain rfl : f = 4 := Option.some.inj ((show Tryd.prog.funcNamed "stepwell/stepwelllaw29.SlabApart" = some 4 by kernel_rfl).symm.trans hf) |>.symm
      obtain rfl : fn = Tryd.f4 := (Option.some.inj (Tryd.func4.symm.trans hfn)).symm
      exact ⟨by kernel_rfl, fun j t ht => by
        rw [Tryd.params4] at ht
        have hm : t ∈ [22, 24] := by simpa using Array.mem_of_getElem? ht
        have hall : ([22, 24].all fun u => !Tryd.prog.wantsStandIn u) = true := by kernel_rfl
        exact (show Tryd.prog.wantsStandIn t = false by simpa using List.all_eq_true.1 hall t hm)⟩)
    (by kernel_rfl)
end Go.Proofs.YtdphhfijgckhiaaDoor.lawSlabApart
