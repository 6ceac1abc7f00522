/- Layer 33 (valid), ValidParts: whatever the bundle: if it may be, then it may be with any one of its models alone, and with the first blocks of a model just if the last of these has an exit; the call returns true and leaves its argument as it was. The names of the kinds are listed as the program's text lays them. Written by gen_valid6.py. -/
import Derived.Test.YtoffcaldhojjoaaDoorTie
import Derived.Test.YtoffcaldhojjoaaDoorCards
import Derived.Test.YtoffcaldhojjoaaDoorGVP50
namespace Go.Proofs.YtoffcaldhojjoaaDoor.CConv
end Go.Proofs.YtoffcaldhojjoaaDoor.CConv
namespace Go.Proofs.YtoffcaldhojjoaaDoor.CCost
end Go.Proofs.YtoffcaldhojjoaaDoor.CCost
namespace Go.Proofs.YtoffcaldhojjoaaDoor.CFix
end Go.Proofs.YtoffcaldhojjoaaDoor.CFix
namespace Go.Proofs.YtoffcaldhojjoaaDoor.CGraph
end Go.Proofs.YtoffcaldhojjoaaDoor.CGraph
namespace Go.Proofs.YtoffcaldhojjoaaDoor.CGuard
end Go.Proofs.YtoffcaldhojjoaaDoor.CGuard
namespace Go.Proofs.YtoffcaldhojjoaaDoor.CJoin
end Go.Proofs.YtoffcaldhojjoaaDoor.CJoin
namespace Go.Proofs.YtoffcaldhojjoaaDoor.CKind
end Go.Proofs.YtoffcaldhojjoaaDoor.CKind
namespace Go.Proofs.YtoffcaldhojjoaaDoor.CSat
end Go.Proofs.YtoffcaldhojjoaaDoor.CSat
namespace Go.Proofs.YtoffcaldhojjoaaDoor.CShape
end Go.Proofs.YtoffcaldhojjoaaDoor.CShape
namespace Go.Proofs.YtoffcaldhojjoaaDoor.CSpan
end Go.Proofs.YtoffcaldhojjoaaDoor.CSpan
namespace Go.Proofs.YtoffcaldhojjoaaDoor.CTensor
end Go.Proofs.YtoffcaldhojjoaaDoor.CTensor
namespace Go.Proofs.YtoffcaldhojjoaaDoor.lawValidParts
open Go Go.ChangeShapes Go.WideShapes Go.ChangeAt Go.RowKit Go.Deep
open Plain CSat CFix CShape CTensor CConv CSpan CKind CGraph CJoin CGuard CBund CCost CVerd CValid
set_option maxRecDepth 100000
set_option linter.unusedVariables false
set_option linter.unusedSimpArgs false
set_option maxHeartbeats 32000000 in
theorem walk {w : World} (u : Bu) (hu : BuOk w w.heap.size u) (hT : zae w) :
    Calls Tryd.prog 4 #[.agg u.val.toArray] w fun e w' => e = .returned (.bool true) ∧ Below w.heap.size w w' := by
  obtain ⟨S, hS⟩ := sets_of hu
  obtain ⟨rg, hrg⟩ : ∃ rg, rgB u S = rg := ⟨_, rfl⟩
  have CR : Hid (∀ (hf : FewBu u) (wx : World), Below w.heap.size w wx → Calls Tryd.prog 9 #[.agg u.val.toArray] wx fun e w' => e = .returned (.bool rg) ∧ Below wx.heap.size wx w') :=
    Lib.hid (fun hf wx hx => by have q := zbd u S wx ((⟨hu, hS, hf⟩ : BuRdy w u S).below hx) (hT.grown hx); rw [hrg] at q; exact q)
  have HRG0 := Lib.hid hrg
  have HB0 := Lib.hid ((Below.refl w.heap.size w).alloc (Nat.le_refl _) (.cells u.val.toArray 37))
  have HU := Lib.hid (UAt.new u 37 w)
  have HSZ : Hid (w.heap.size < (w.alloc (.cells u.val.toArray 37)).heap.size) := Lib.hid (by simp)
  have HUK := Lib.hid hu
  have HST := Lib.hid hS
  have HT := Lib.hid hT
  clear hu hS hT hrg
  go_enter Tryd.func4, Tryd.ntmps4
  go_upto_region 1 with fail
  generalize (w.alloc (.cells u.val.toArray 37)) = W0 at HB0 HU HSZ ⊢
  obtain ⟨c0, c1, c2, c3, c4⟩ := HU.out
  go_wp2_with (first
    | (go_at_call 5
       refine (rfew33_to u _ ((HUK.out.below HB0.out).more HB0.out.size)).mono ?_
       rintro e w1 ⟨bf, rfl, hfew, hb⟩
       have HB1 := Lib.hid (HB0.out.trans (hb.mono HB0.out.size))
       have HU1 := Lib.hid (HU.out.below HSZ.out hb)
       have HS1 := Lib.hid (Nat.lt_of_lt_of_le HSZ.out hb.size)
       have HFW : Hid (FewIs bf (FewBu u)) := Lib.hid hfew
       clear hfew hb c0 c1 c2 c3 c4
       obtain ⟨c0, c1, c2, c3, c4⟩ := HU1.out
       rcases bf with _ | _)
    | (go_at_call 9
       refine (CR.out (HFW.out rfl) _ HB1.out).mono ?_
       rintro e w2 ⟨rfl, hb⟩
       have HB2 := Lib.hid (HB1.out.trans (hb.mono HB1.out.size))
       have HU2 := Lib.hid (HU1.out.below HS1.out hb)
       have HS2 := Lib.hid (Nat.lt_of_lt_of_le HS1.out hb.size)
       clear hb c0 c1 c2 c3 c4
       obtain ⟨c0, c1, c2, c3, c4⟩ := HU2.out
       rcases rg with _ | _)
    | (go_at_call 6
       first | refine (known33 _ (HT.out.grown HB2.out)).mono ?_ | refine (known33 _ (HT.out.grown HB1.out)).mono ?_
       rintro e w9 ⟨rfl, hb9⟩))
  · go_ret
    exact ⟨rfl, HB1.out.trans (hb9.mono HB1.out.size)⟩
  · go_ret
    exact ⟨rfl, HB2.out.trans (hb9.mono HB2.out.size)⟩
  have HRD : Hid (BuRdy w u S) := Lib.hid ⟨HUK.out, HST.out, HFW.out rfl⟩
  have HRG := HRG0
  clear CR HB0 HB1 HU HU1 HSZ HS1 c0 c1 c2 c3 c4 HRG0 HST
  have HUC : Hid (∀ wx, Below w2.heap.size w2 wx → UAt w.heap.size u wx) := Lib.hid (fun wx hb => HU2.out.below HS2.out hb)
  obtain ⟨n, hn⟩ : ∃ n, u.n = n := ⟨_, rfl⟩
  have HN := Lib.hid hn
  have HN4 : Hid (n ≤ 4) := Lib.hid (by rw [← hn]; exact HRD.out.few.1)
  clear hn
  go_loopw [3] (fun s wr => ∃ i : Nat, i ≤ n ∧ s = .int .i64 i ∧ Hid (Below w2.heap.size w2 wr)) (fun s _ => n - (intOf s).toNat)
  case atStart => exact ⟨0, Nat.zero_le _, rfl, Lib.hid (Below.refl _ _)⟩
  case round =>
    obtain ⟨i, hi, rfl, HW⟩ := hrel
    obtain ⟨c0, c1, c2, c3, c4⟩ := HUC.out _ HW.out
    rw [HN.out] at c4
    have HBW := Lib.hid (HB2.out.trans (HW.out.mono HB2.out.size))
    by_cases hlt : i < n
    · have i5 : (0 : Int) ≤ (i : Int) := by omega
      have i6 : (i : Int) < (n : Int) := by omega
      have hin : i < u.n := by have := HN.out; omega
      obtain ⟨m, hm⟩ : ∃ m, u.M i = m := ⟨_, rfl⟩
      have HM := Lib.hid hm
      obtain ⟨bm, om, hAe, hbm, hcm⟩ := mod_cells (HUK.out.below HBW.out) hin
      rw [hm] at hcm
      have HLT := Lib.hid hlt
      have HCM : Hid (∀ wx, Below wr.heap.size wr wx → wx.cell? ⟨bm, om + i, none⟩ = some (.slice m.A m.n m.c)) := Lib.hid (fun wx hb => (hb.cell (p := ⟨bm, om + i, none⟩) (Nat.lt_of_lt_of_le hbm HBW.out.size)).trans hcm)
      have HUR : Hid (∀ wx, Below wr.heap.size wr wx → wx.cell? ⟨w.heap.size, 0, none⟩ = some (.int .i64 u.H) ∧ wx.cell? ⟨w.heap.size, 1, none⟩ = some (.int .i64 u.W) ∧ wx.cell? ⟨w.heap.size, 2, none⟩ = some (.int .i64 u.C) ∧ wx.cell? ⟨w.heap.size, 3, none⟩ = some (.int .i64 u.cl) ∧ wx.cell? ⟨w.heap.size, 4, none⟩ = some (.slice (some ⟨bm, om, none⟩) n u.c)) := Lib.hid (fun wx hb => by have q := HUC.out wx (HW.out.trans (hb.mono HW.out.size)); unfold UAt at q; rw [HN.out, hAe] at q; exact q)
      replace HUC : Hid (∀ wx, Below w2.heap.size w2 wx → wx.cell? ⟨w.heap.size, 4, none⟩ = some (.slice (some ⟨bm, om, none⟩) n u.c)) := Lib.hid (fun wx hb => by have q := (HUC.out wx hb).2.2.2.2; rw [HN.out, hAe] at q; exact q)
      clear hm hbm hcm hlt
      go_upto_region 6 with fail
      clear c0 c1 c2 c3 c4 hAe
      refine wp_region_held_drew (S := fun wx => Below wr.heap.size wr wx) (by kernel_rfl) (Below.refl _ _).drew (fun hHeld => ?_)
      generalize wr.drew = W1 at hHeld ⊢
      refine Tk.x 0 rfl ?_
      try simp only [Tk.put]
      refine Tk.y 1 (v := .agg #[.int .i64 u.H, .int .i64 u.W, .int .i64 u.C]) rfl ?_ ?_
      · intro wS hSw
        obtain ⟨q0, q1, q2, q3, q4⟩ := HUR.out wS hSw
        first | (go_simp; done) | (go_simp; with_reducible rfl)
      try simp only [Tk.put]
      refine Tk.x 2 rfl ?_
      try simp only [Tk.put]
      refine Tk.y 3 (v := .int .i64 u.cl) rfl ?_ ?_
      · intro wS hSw
        obtain ⟨q0, q1, q2, q3, q4⟩ := HUR.out wS hSw
        first | (go_simp; done) | (go_simp; with_reducible rfl)
      try simp only [Tk.put]
      refine Tk.x 4 rfl ?_
      try simp only [Tk.put]
      refine Tk.y 5 (v := .slice (some ⟨bm, om, none⟩) n u.c) rfl ?_ ?_
      · intro wS hSw
        obtain ⟨q0, q1, q2, q3, q4⟩ := HUR.out wS hSw
        first | (go_simp; done) | (go_simp; with_reducible rfl)
      try simp only [Tk.put]
      refine Tk.x 6 rfl ?_
      try simp only [Tk.put]
      refine Tk.x 7 rfl ?_
      try simp only [Tk.put]
      refine Tk.y 8 (v := .agg #[.slice m.A m.n m.c]) rfl ?_ ?_
      · intro wS hSw
        have q := HCM.out wS hSw
        first | (go_simp; done) | (go_simp; with_reducible rfl)
      try simp only [Tk.put]
      refine wpAnyH_ready (rs := [9, 11]) (by kernel_rfl) (by simp) ?_
      refine Tk.c rfl (fun Kq hK => ?_) (Tk.c rfl (fun Kq hK => ?_) AllReadyH.nil)
      rotate_left 1
      all_goals skip
      · skip
        go_simp
        have hS2 := hHeld.alloc hHeld.size (.cells #[.int .i64 0, .int .i64 0, .int .i64 0, .int .i64 0, .slice none 0 0] 37)
        have HFX := Lib.hid (UOk.new0 37 W1)
        have HFL : Hid (W1.heap.size < (W1.alloc (.cells #[.int .i64 0, .int .i64 0, .int .i64 0, .int .i64 0, .slice none 0 0] 37)).heap.size) := Lib.hid (by simp)
        have HFG : Hid (wr.heap.size ≤ W1.heap.size) := Lib.hid hHeld.size
        generalize hbo : W1.heap.size = bo at *
        generalize W1.alloc (.cells #[.int .i64 0, .int .i64 0, .int .i64 0, .int .i64 0, .slice none 0 0] 37) = W2 at hS2 HFX HFL ⊢
        clear hHeld hbo
        refine hK.out _ _ hS2 (fun hHeld => ?_)
        clear hK Kq hS2
        try simp only [Tk.put]
        refine Tk.s 9 rfl (fun Kq hK => ?_)
        go_simp
        have hS2 := hHeld.alloc hHeld.size (.cells #[.slice m.A m.n m.c] 34)
        have HSC : Hid ((W2.alloc (.cells #[.slice m.A m.n m.c] 34)).cell? ⟨W2.heap.size, 0, none⟩ = some (.slice m.A m.n m.c)) := Lib.hid (Kit.zac _ _ _ _)
        have HSL : Hid (W2.heap.size < (W2.alloc (.cells #[.slice m.A m.n m.c] 34)).heap.size) := Lib.hid (by simp)
        replace HFX := Lib.hid (HFX.out.below HFL.out ((Below.refl _ _).alloc (Nat.le_refl _) (.cells #[.slice m.A m.n m.c] 34)))
        have HFL3 : Hid (bo < (W2.alloc (.cells #[.slice m.A m.n m.c] 34)).heap.size) := Lib.hid (by have := HFL.out; simp; omega)
        have HNE : Hid (W2.heap.size ≠ bo) := Lib.hid (by have := HFL.out; omega)
        generalize hbs : W2.heap.size = bs at *
        generalize W2.alloc (.cells #[.slice m.A m.n m.c] 34) = W3 at hS2 HSC HSL HFX HFL3 ⊢
        clear hHeld hbs
        refine hK.out _ _ hS2 (fun hHeld => ?_)
        clear hK Kq hS2
        try simp only [Tk.put]
        refine Tk.x 10 rfl ?_
        try simp only [Tk.put]
        have HSC3 := HSC
        have HSL3 := HSL
        obtain ⟨⟨z0, z1, z2, z3, z4⟩, z5, z6, z7, z8, z9⟩ := HFX.out
        refine Tk.s 12 rfl (fun Kq hK => ?_)
        go_simp
        clear z0 z1 z2 z3 z4 z5 z6 z7 z8 z9
        have hS2 : Below wr.heap.size wr (((((W3.setCell ⟨bo, 0, none⟩ (.int .i64 u.H)).setCell ⟨bo, 1, none⟩ (.int .i64 u.W)).setCell ⟨bo, 2, none⟩ (.int .i64 u.C)).setCell ⟨bo, 3, none⟩ (.int .i64 u.cl)).setCell ⟨bo, 4, none⟩ (.slice (some ⟨bs, 0, none⟩) 1 1)) := ((((hHeld.setCell (p := ⟨bo, 0, none⟩) HFG.out _).setCell (p := ⟨bo, 1, none⟩) HFG.out _).setCell (p := ⟨bo, 2, none⟩) HFG.out _).setCell (p := ⟨bo, 3, none⟩) HFG.out _).setCell (p := ⟨bo, 4, none⟩) HFG.out _
        have HUO : Hid (UOk bo (partU u i m.n (some ⟨bs, 0, none⟩)) (((((W3.setCell ⟨bo, 0, none⟩ (.int .i64 u.H)).setCell ⟨bo, 1, none⟩ (.int .i64 u.W)).setCell ⟨bo, 2, none⟩ (.int .i64 u.C)).setCell ⟨bo, 3, none⟩ (.int .i64 u.cl)).setCell ⟨bo, 4, none⟩ (.slice (some ⟨bs, 0, none⟩) 1 1))) := Lib.hid (HFX.out.set (v := partU u i m.n (some ⟨bs, 0, none⟩)))
        have HSC4 : Hid ((((((W3.setCell ⟨bo, 0, none⟩ (.int .i64 u.H)).setCell ⟨bo, 1, none⟩ (.int .i64 u.W)).setCell ⟨bo, 2, none⟩ (.int .i64 u.C)).setCell ⟨bo, 3, none⟩ (.int .i64 u.cl)).setCell ⟨bo, 4, none⟩ (.slice (some ⟨bs, 0, none⟩) 1 1)).cell? ⟨bs, 0, none⟩ = some (.slice m.A m.n m.c)) := Lib.hid (by have h := HSC3.out; have hn := HNE.out; have hn2 : ¬ bo = bs := fun e => hn e.symm; go_cell)
        have HSL4 : Hid (bs < (((((W3.setCell ⟨bo, 0, none⟩ (.int .i64 u.H)).setCell ⟨bo, 1, none⟩ (.int .i64 u.W)).setCell ⟨bo, 2, none⟩ (.int .i64 u.C)).setCell ⟨bo, 3, none⟩ (.int .i64 u.cl)).setCell ⟨bo, 4, none⟩ (.slice (some ⟨bs, 0, none⟩) 1 1)).heap.size) := Lib.hid (by simp only [World.size_setCell]; exact HSL3.out)
        have HOL4 : Hid (bo < (((((W3.setCell ⟨bo, 0, none⟩ (.int .i64 u.H)).setCell ⟨bo, 1, none⟩ (.int .i64 u.W)).setCell ⟨bo, 2, none⟩ (.int .i64 u.C)).setCell ⟨bo, 3, none⟩ (.int .i64 u.cl)).setCell ⟨bo, 4, none⟩ (.slice (some ⟨bs, 0, none⟩) 1 1)).heap.size) := Lib.hid (by simp only [World.size_setCell]; exact HFL3.out)
        generalize (((((W3.setCell ⟨bo, 0, none⟩ (.int .i64 u.H)).setCell ⟨bo, 1, none⟩ (.int .i64 u.W)).setCell ⟨bo, 2, none⟩ (.int .i64 u.C)).setCell ⟨bo, 3, none⟩ (.int .i64 u.cl)).setCell ⟨bo, 4, none⟩ (.slice (some ⟨bs, 0, none⟩) 1 1)) = W4 at hS2 HUO HSC4 HSL4 HOL4 ⊢
        clear hHeld
        refine hK.out _ _ hS2 (fun hHeld => ?_)
        clear hK Kq hS2
        try simp only [Tk.put]
        refine wpAnyH_done (by kernel_rfl) ?_ _
        have HB4 := Lib.hid (HW.out.trans (hHeld.mono HW.out.size))
        have HWW4 := Lib.hid (HBW.out.trans (hHeld.mono HBW.out.size))
        obtain ⟨y0, y1, y2, y3, y4⟩ := HUO.out.1
        have RDY := Lib.hid (part_rdy (w := w) (wx := W4) HRD.out (i := i) (by have := HN.out; have := HLT.out; omega) (q := m.n) (by rw [HM.out]; exact Nat.le_refl _) HWW4.out (bs := bs) HSL4.out (by rw [HM.out]; exact HSC4.out))
        have CRW : Hid (Calls Tryd.prog 9 #[.agg #[.int .i64 u.H, .int .i64 u.W, .int .i64 u.C, .int .i64 u.cl, .slice (some ⟨bs, 0, none⟩) 1 1]] W4 fun e w' => e = .returned (.bool true) ∧ Below W4.heap.size W4 w') :=
          Lib.hid (by have q := zbd _ _ W4 RDY.out (HT.out.grown HWW4.out); rw [rg_whole HRG.out (by have := HN.out; have := HLT.out; omega) _ m HM.out] at q; exact q)
        have y5 : W4.cell? ⟨bo, 0, none⟩ = some (.int .i64 u.H) := y0
        have y6 : W4.cell? ⟨bo, 1, none⟩ = some (.int .i64 u.W) := y1
        have y7 : W4.cell? ⟨bo, 2, none⟩ = some (.int .i64 u.C) := y2
        have y8 : W4.cell? ⟨bo, 3, none⟩ = some (.int .i64 u.cl) := y3
        have y9 : W4.cell? ⟨bo, 4, none⟩ = some (.slice (some ⟨bs, 0, none⟩) 1 1) := y4
        have HHW4 := Lib.hid hHeld
        clear hHeld HFX HFL HSC4 HSL4 y0 y1 y2 y3 y4 RDY
        go_upto_region 10 with (go_at_call 9; (refine CRW.out.mono ?_); rintro e W5 ⟨rfl, hb⟩; (have HB5 := Lib.hid (HB4.out.trans (hb.mono HB4.out.size))); (have HU5 := Lib.hid (HUO.out.below HOL4.out hb)); (have HL5 := Lib.hid (Nat.lt_of_lt_of_le HOL4.out hb.size)); (have HH5 := Lib.hid (HHW4.out.trans (hb.mono HHW4.out.size))); clear hb y5 y6 y7 y8 y9; have c4 := HUC.out _ HB5.out; have cm0 := HCM.out _ HH5.out)
        clear c4 cm0 CRW HHW4 HB4 HUO HOL4 HWW4
        have HU6 : Hid (∃ A q, UOk bo (partU u i q A) W5) := Lib.hid ⟨_, _, HU5.out⟩
        clear HU5
        obtain ⟨n2, hn2⟩ : ∃ q, m.n = q := ⟨_, rfl⟩
        have HN2 := Lib.hid hn2
        try rw [hn2]
        clear hn2
        have HN8 : Hid (n2 ≤ 8) := Lib.hid (by have q := (HRD.out.few.2 i (by have := HN.out; have := HLT.out; omega)).1; rw [HM.out, HN2.out] at q; exact q)
        have HMO : Hid (MdOk w w.heap.size m) := Lib.hid (by have q := HRD.out.ok.each i (by have := HN.out; have := HLT.out; omega); rw [HM.out] at q; exact q)
        have HB05 : Hid (Below w.heap.size w W5) := Lib.hid (HB2.out.trans (HB5.out.mono HB2.out.size))
        have HBO2 : Hid (w.heap.size < bo) := Lib.hid (by have := HFG.out; have := HBW.out.size; have := HW.out.size; have := HS2.out; omega)
        go_wp2_with fail
        go_loopw [6] (fun s wx => ∃ k : Nat, k ≤ n2 ∧ s = .int .i64 k ∧ Hid (∃ A q, UOk bo (partU u i q A) wx) ∧ Hid (Below bo W5 wx)) (fun s _ => n2 - (intOf s).toNat)
        case atStart => exact ⟨0, Nat.zero_le _, rfl, HU6, Lib.hid (Below.refl _ _)⟩
        case round =>
          obtain ⟨k, hk, rfl, HUK, HBK⟩ := hrel
          clear HU6
          have HWI : Hid (Below w.heap.size w wr) := Lib.hid (HB05.out.trans (HBK.out.mono (by have := HBO2.out; omega)))
          by_cases hlk : k < n2
          · have k5 : (0 : Int) ≤ (k : Int) := by omega
            have k6 : (k : Int) < (n2 : Int) := by omega
            have hkn : k < m.n := by have := HN2.out; omega
            obtain ⟨bb, ob, hBe, hbb, hb0, hb1, hb2, hb3, hb4⟩ := blk_cells (HMO.out.below HWI.out) hkn
            obtain ⟨q, hq⟩ : ∃ q, k + 1 = q := ⟨_, rfl⟩
            have HQ := Lib.hid hq
            have hc := HMO.out.cap.1
            obtain ⟨cm, hcm⟩ : ∃ cm, m.c = cm := ⟨_, rfl⟩
            rw [hcm, HN2.out] at hc
            have HCC := Lib.hid hcm
            obtain ⟨ex, hex⟩ : ∃ ex, (m.K k).ex = ex := ⟨_, rfl⟩
            have HEX := Lib.hid hex
            have s0 : IntKind.i64.wrap ((k : Int) + 1) = (q : Int) := by rw [← hq]; exact IntWalk.i64_in _ (by have := HN8.out; omega)
            have s1 : (0 : Int) ≤ (q : Int) := by omega
            have s2 : (q : Int) ≤ (cm : Int) := by omega
            have s3 : q ≤ cm := by omega
            obtain ⟨A9, q9, hu9⟩ := HUK.out
            have HU9 := Lib.hid hu9
            obtain ⟨⟨y0, y1, y2, y3, y4⟩, y5, y6, y7, y8, y9⟩ := hu9
            have HBL : Hid (bo < wr.heap.size) := Lib.hid (Kit.block_lt y0)
            have HBI : Hid (Below bo W5 (wr.alloc (.cells #[.slice m.A q m.c] 34))) := Lib.hid (HBK.out.alloc (by have := HBL.out; omega) _)
            rw [hBe]
            try rw [hcm]
            have HBE := Lib.hid hBe
            have HXB : Hid (∀ wx, Below wr.heap.size wr wx → wx.cell? ⟨bb, ob + k * 5 + 1, none⟩ = some (.bool ex)) := Lib.hid (fun wx hb => (hb.cell (p := ⟨bb, ob + k * 5 + 1, none⟩) (Nat.lt_of_lt_of_le hbb HWI.out.size)).trans (by rw [← hex]; exact hb1))
            have HBQ : Hid (bb < wr.heap.size) := Lib.hid (Nat.lt_of_lt_of_le hbb HWI.out.size)
            have HBQ2 : Hid (bb < bo) := Lib.hid (by have := HBO2.out; omega)
            clear hq hcm hex hBe hbb hb0 hb1 hb2 hb3 hb4 hkn hc
            have hbl : bo < wr.heap.size := HBL.out
            go_upto_region 14 with fail
            clear y0 y1 y2 y3 y4 y5 y6 y7 y8 y9 hbl s0 s1 s2 s3
            have hss : (wr.setCell ⟨bo, 4, none⟩ (.slice (some ⟨wr.heap.size, 0, none⟩) 1 1)).heap.size = wr.heap.size := World.size_setCell ..
            have hal : Below wr.heap.size (wr.setCell ⟨bo, 4, none⟩ (.slice (some ⟨wr.heap.size, 0, none⟩) 1 1)) ((wr.setCell ⟨bo, 4, none⟩ (.slice (some ⟨wr.heap.size, 0, none⟩) 1 1)).alloc (.cells #[.slice (some ⟨bb, ob, none⟩) q cm] 34)) := (Below.refl _ _).alloc (by rw [hss]; exact Nat.le_refl _) _
            have HU8 : Hid (UOk bo (partU u i q (some ⟨wr.heap.size, 0, none⟩)) ((wr.setCell ⟨bo, 4, none⟩ (.slice (some ⟨wr.heap.size, 0, none⟩) 1 1)).alloc (.cells #[.slice (some ⟨bb, ob, none⟩) q cm] 34))) := Lib.hid ((HU9.out.set4 (some ⟨wr.heap.size, 0, none⟩) 1 1 (fun _ => ⟨(u.M i).A, q, (u.M i).c, (u.M i).K⟩)).below HBL.out hal)
            have HC8 : Hid (((wr.setCell ⟨bo, 4, none⟩ (.slice (some ⟨wr.heap.size, 0, none⟩) 1 1)).alloc (.cells #[.slice (some ⟨bb, ob, none⟩) q cm] 34)).cell? ⟨wr.heap.size, 0, none⟩ = some (.slice (some ⟨bb, ob, none⟩) q cm)) := Lib.hid (by
              have h := Kit.zac (wr.setCell ⟨bo, 4, none⟩ (.slice (some ⟨wr.heap.size, 0, none⟩) 1 1)) #[.slice (some ⟨bb, ob, none⟩) q cm] 34 0
              rw [hss] at h
              exact h)
            have HB8 : Hid (Below bo W5 ((wr.setCell ⟨bo, 4, none⟩ (.slice (some ⟨wr.heap.size, 0, none⟩) 1 1)).alloc (.cells #[.slice (some ⟨bb, ob, none⟩) q cm] 34))) := Lib.hid ((HBK.out.setCell (p := ⟨bo, 4, none⟩) (Nat.le_refl _) _).trans (hal.mono (Nat.le_of_lt HBL.out)))
            have HL8 : Hid (wr.heap.size < ((wr.setCell ⟨bo, 4, none⟩ (.slice (some ⟨wr.heap.size, 0, none⟩) 1 1)).alloc (.cells #[.slice (some ⟨bb, ob, none⟩) q cm] 34)).heap.size) := Lib.hid (by simp)
            have hx8 : ((wr.setCell ⟨bo, 4, none⟩ (.slice (some ⟨wr.heap.size, 0, none⟩) 1 1)).alloc (.cells #[.slice (some ⟨bb, ob, none⟩) q cm] 34)).cell? ⟨bb, ob + k * 5 + 1, none⟩ = some (.bool ex) := (hal.cell (p := ⟨bb, ob + k * 5 + 1, none⟩) HBQ.out).trans (by
              have h := HXB.out wr (Below.refl _ _)
              have hn : ¬ bb = bo := by have := HBQ2.out; omega
              have hn2 : ¬ bo = bb := fun e => hn e.symm
              go_cell)
            have HX8 : Hid (∀ wx, Below ((wr.setCell ⟨bo, 4, none⟩ (.slice (some ⟨wr.heap.size, 0, none⟩) 1 1)).alloc (.cells #[.slice (some ⟨bb, ob, none⟩) q cm] 34)).heap.size ((wr.setCell ⟨bo, 4, none⟩ (.slice (some ⟨wr.heap.size, 0, none⟩) 1 1)).alloc (.cells #[.slice (some ⟨bb, ob, none⟩) q cm] 34)) wx → wx.cell? ⟨bb, ob + k * 5 + 1, none⟩ = some (.bool ex)) := Lib.hid (fun wx hb => (hb.cell (p := ⟨bb, ob + k * 5 + 1, none⟩) (Nat.lt_trans HBQ.out HL8.out)).trans hx8)
            clear hss hal hx8
            generalize hbs2 : wr.heap.size = bs2 at *
            generalize ((wr.setCell ⟨bo, 4, none⟩ (.slice (some ⟨bs2, 0, none⟩) 1 1)).alloc (.cells #[.slice (some ⟨bb, ob, none⟩) q cm] 34)) = W6 at HU8 HC8 HB8 HL8 HX8 ⊢
            have HW6 : Hid (Below w.heap.size w W6) := Lib.hid (HB05.out.trans (HB8.out.mono (by have := HBO2.out; omega)))
            have RDY := Lib.hid (part_rdy (w := w) (wx := W6) HRD.out (i := i) (by have := HN.out; have := HLT.out; omega) (q := q) (by rw [HM.out, HN2.out]; have := HQ.out; omega) HW6.out (bs := bs2) HL8.out (by rw [HM.out, HBE.out, HCC.out]; exact HC8.out))
            have CRK : Hid (∀ wx, Below W6.heap.size W6 wx → Calls Tryd.prog 9 #[.agg #[.int .i64 u.H, .int .i64 u.W, .int .i64 u.C, .int .i64 u.cl, .slice (some ⟨bs2, 0, none⟩) 1 1]] wx fun e w' => e = .returned (.bool ex) ∧ Below wx.heap.size wx w') :=
              Lib.hid (fun wx hb => by
                have q := zbd _ _ wx (RDY.out.below hb) (HT.out.grown (HW6.out.trans (hb.mono HW6.out.size)))
                rw [← HQ.out, rg_first HRG.out (by have := HN.out; have := HLT.out; omega) _ m HM.out (by rw [HN2.out]; omega), HEX.out] at q
                exact q)
            have HUC6 : Hid (∀ wx, Below W6.heap.size W6 wx → UAt bo (partU u i q (some ⟨bs2, 0, none⟩)) wx) := Lib.hid (fun wx hb => HU8.out.1.below (Nat.lt_trans HBL.out HL8.out) hb)
            clear RDY HC8 hbs2 HU9 HUK
            refine wp_region_held_drew (S := fun wx => Below W6.heap.size W6 wx) (by kernel_rfl) (Below.refl _ _).drew (fun hHeld => ?_)
            generalize W6.drew = W7 at hHeld ⊢
            refine Tk.y 0 (v := .agg #[.int .i64 u.H, .int .i64 u.W, .int .i64 u.C, .int .i64 u.cl, .slice (some ⟨bs2, 0, none⟩) 1 1]) rfl ?_ ?_
            · intro wS hSw
              obtain ⟨q0, q1, q2, q3, q4⟩ := HUC6.out wS hSw
              have r0 : wS.cell? ⟨bo, 0, none⟩ = some (.int .i64 u.H) := q0
              have r1 : wS.cell? ⟨bo, 1, none⟩ = some (.int .i64 u.W) := q1
              have r2 : wS.cell? ⟨bo, 2, none⟩ = some (.int .i64 u.C) := q2
              have r3 : wS.cell? ⟨bo, 3, none⟩ = some (.int .i64 u.cl) := q3
              have r4 : wS.cell? ⟨bo, 4, none⟩ = some (.slice (some ⟨bs2, 0, none⟩) 1 1) := q4
              clear q0 q1 q2 q3 q4
              first | (go_simp; done) | (go_simp; with_reducible rfl)
            try simp only [Tk.put]
            refine Tk.x 2 rfl ?_
            try simp only [Tk.put]
            refine Tk.x 3 rfl ?_
            try simp only [Tk.put]
            refine Tk.x 4 rfl ?_
            try simp only [Tk.put]
            refine Tk.x 5 rfl ?_
            try simp only [Tk.put]
            refine Tk.y 6 (v := .bool ex) rfl ?_ ?_
            · intro wS hSw
              have q0 := HX8.out wS hSw
              first | (go_simp; done) | (go_simp; with_reducible rfl)
            try simp only [Tk.put]
            refine Tk.s 1 rfl (fun Kq hK => ?_)
            go_simp
            go_at_call 9
            refine (CRK.out _ hHeld).mono ?_
            rintro e W8 ⟨rfl, hb⟩
            have hS2 := hHeld.trans (hb.mono hHeld.size)
            clear hHeld hb
            dsimp only
            refine hK.out _ _ hS2 (fun hHeld => ?_)
            clear hK Kq hS2
            try simp only [Tk.put]
            refine Tk.y 7 (v := .bool false) rfl ?_ ?_
            · intro wS hSw
              have q0 : (ex != ex) = false := by cases ex <;> rfl
              first | (go_simp; done) | (go_simp; with_reducible rfl)
            try simp only [Tk.put]
            refine wpAnyH_done (by kernel_rfl) ?_ _
            have HB9 := Lib.hid (HB8.out.trans (hHeld.mono (by have := HBL.out; have := HL8.out; omega)))
            have HU9 := Lib.hid (HU8.out.below (B' := W6.heap.size) (Nat.lt_trans HBL.out HL8.out) hHeld)
            have k9 : (k : Int) ≤ 8 := by have := HN8.out; omega
            clear hHeld
            go_wp2_with fail
            go_roundw
            case rel => exact ⟨k + 1, by omega, by go_num, Lib.hid ⟨_, _, HU9.out⟩, HB9⟩
            case measure => simp [intOf]; omega
          · obtain rfl : k = n2 := by omega
            have i9 : (i : Int) ≤ 4 := by have := HN4.out; have := HLT.out; omega
            go_wp2_with fail
            go_roundw
            case rel => exact ⟨i + 1, by have := HLT.out; omega, by go_num, Lib.hid (HB5.out.trans (HBK.out.mono (by have := HFG.out; have := HW.out.size; omega)))⟩
            case measure => have := HLT.out; simp [intOf]; omega
      · skip
        go_simp
        have hS2 := hHeld.alloc hHeld.size (.cells #[.slice m.A m.n m.c] 34)
        have HSC : Hid ((W1.alloc (.cells #[.slice m.A m.n m.c] 34)).cell? ⟨W1.heap.size, 0, none⟩ = some (.slice m.A m.n m.c)) := Lib.hid (Kit.zac _ _ _ _)
        have HSL : Hid (W1.heap.size < (W1.alloc (.cells #[.slice m.A m.n m.c] 34)).heap.size) := Lib.hid (by simp)
        generalize hbs : W1.heap.size = bs at *
        generalize W1.alloc (.cells #[.slice m.A m.n m.c] 34) = W2 at hS2 HSC HSL ⊢
        clear hHeld hbs
        refine hK.out _ _ hS2 (fun hHeld => ?_)
        clear hK Kq hS2
        try simp only [Tk.put]
        refine Tk.x 10 rfl ?_
        try simp only [Tk.put]
        refine Tk.s 11 rfl (fun Kq hK => ?_)
        go_simp
        have hS2 := hHeld.alloc hHeld.size (.cells #[.int .i64 0, .int .i64 0, .int .i64 0, .int .i64 0, .slice none 0 0] 37)
        have HFX := Lib.hid (UOk.new0 37 W2)
        have HFL : Hid (W2.heap.size < (W2.alloc (.cells #[.int .i64 0, .int .i64 0, .int .i64 0, .int .i64 0, .slice none 0 0] 37)).heap.size) := Lib.hid (by simp)
        have HFG : Hid (wr.heap.size ≤ W2.heap.size) := Lib.hid hHeld.size
        have HSC3 : Hid ((W2.alloc (.cells #[.int .i64 0, .int .i64 0, .int .i64 0, .int .i64 0, .slice none 0 0] 37)).cell? ⟨bs, 0, none⟩ = some (.slice m.A m.n m.c)) := Lib.hid (((Below.refl _ _).alloc (Nat.le_refl _) _ : Below W2.heap.size W2 (W2.alloc (.cells #[.int .i64 0, .int .i64 0, .int .i64 0, .int .i64 0, .slice none 0 0] 37))).cell (p := ⟨bs, 0, none⟩) HSL.out |>.trans HSC.out)
        have HSL3 : Hid (bs < (W2.alloc (.cells #[.int .i64 0, .int .i64 0, .int .i64 0, .int .i64 0, .slice none 0 0] 37)).heap.size) := Lib.hid (by have := HSL.out; simp; omega)
        have HNE : Hid (bs ≠ W2.heap.size) := Lib.hid (by have := HSL.out; omega)
        generalize hbo : W2.heap.size = bo at *
        generalize W2.alloc (.cells #[.int .i64 0, .int .i64 0, .int .i64 0, .int .i64 0, .slice none 0 0] 37) = W3 at hS2 HFX HFL HSC3 HSL3 ⊢
        clear hHeld hbo
        refine hK.out _ _ hS2 (fun hHeld => ?_)
        clear hK Kq hS2
        try simp only [Tk.put]
        obtain ⟨⟨z0, z1, z2, z3, z4⟩, z5, z6, z7, z8, z9⟩ := HFX.out
        refine Tk.s 12 rfl (fun Kq hK => ?_)
        go_simp
        clear z0 z1 z2 z3 z4 z5 z6 z7 z8 z9
        have hS2 : Below wr.heap.size wr (((((W3.setCell ⟨bo, 0, none⟩ (.int .i64 u.H)).setCell ⟨bo, 1, none⟩ (.int .i64 u.W)).setCell ⟨bo, 2, none⟩ (.int .i64 u.C)).setCell ⟨bo, 3, none⟩ (.int .i64 u.cl)).setCell ⟨bo, 4, none⟩ (.slice (some ⟨bs, 0, none⟩) 1 1)) := ((((hHeld.setCell (p := ⟨bo, 0, none⟩) HFG.out _).setCell (p := ⟨bo, 1, none⟩) HFG.out _).setCell (p := ⟨bo, 2, none⟩) HFG.out _).setCell (p := ⟨bo, 3, none⟩) HFG.out _).setCell (p := ⟨bo, 4, none⟩) HFG.out _
        have HUO : Hid (UOk bo (partU u i m.n (some ⟨bs, 0, none⟩)) (((((W3.setCell ⟨bo, 0, none⟩ (.int .i64 u.H)).setCell ⟨bo, 1, none⟩ (.int .i64 u.W)).setCell ⟨bo, 2, none⟩ (.int .i64 u.C)).setCell ⟨bo, 3, none⟩ (.int .i64 u.cl)).setCell ⟨bo, 4, none⟩ (.slice (some ⟨bs, 0, none⟩) 1 1))) := Lib.hid (HFX.out.set (v := partU u i m.n (some ⟨bs, 0, none⟩)))
        have HSC4 : Hid ((((((W3.setCell ⟨bo, 0, none⟩ (.int .i64 u.H)).setCell ⟨bo, 1, none⟩ (.int .i64 u.W)).setCell ⟨bo, 2, none⟩ (.int .i64 u.C)).setCell ⟨bo, 3, none⟩ (.int .i64 u.cl)).setCell ⟨bo, 4, none⟩ (.slice (some ⟨bs, 0, none⟩) 1 1)).cell? ⟨bs, 0, none⟩ = some (.slice m.A m.n m.c)) := Lib.hid (by have h := HSC3.out; have hn := HNE.out; have hn2 : ¬ bo = bs := fun e => hn e.symm; go_cell)
        have HSL4 : Hid (bs < (((((W3.setCell ⟨bo, 0, none⟩ (.int .i64 u.H)).setCell ⟨bo, 1, none⟩ (.int .i64 u.W)).setCell ⟨bo, 2, none⟩ (.int .i64 u.C)).setCell ⟨bo, 3, none⟩ (.int .i64 u.cl)).setCell ⟨bo, 4, none⟩ (.slice (some ⟨bs, 0, none⟩) 1 1)).heap.size) := Lib.hid (by simp only [World.size_setCell]; exact HSL3.out)
        have HOL4 : Hid (bo < (((((W3.setCell ⟨bo, 0, none⟩ (.int .i64 u.H)).setCell ⟨bo, 1, none⟩ (.int .i64 u.W)).setCell ⟨bo, 2, none⟩ (.int .i64 u.C)).setCell ⟨bo, 3, none⟩ (.int .i64 u.cl)).setCell ⟨bo, 4, none⟩ (.slice (some ⟨bs, 0, none⟩) 1 1)).heap.size) := Lib.hid (by simp only [World.size_setCell]; exact HFL.out)
        generalize (((((W3.setCell ⟨bo, 0, none⟩ (.int .i64 u.H)).setCell ⟨bo, 1, none⟩ (.int .i64 u.W)).setCell ⟨bo, 2, none⟩ (.int .i64 u.C)).setCell ⟨bo, 3, none⟩ (.int .i64 u.cl)).setCell ⟨bo, 4, none⟩ (.slice (some ⟨bs, 0, none⟩) 1 1)) = W4 at hS2 HUO HSC4 HSL4 HOL4 ⊢
        clear hHeld
        refine hK.out _ _ hS2 (fun hHeld => ?_)
        clear hK Kq hS2
        try simp only [Tk.put]
        refine wpAnyH_done (by kernel_rfl) ?_ _
        have HB4 := Lib.hid (HW.out.trans (hHeld.mono HW.out.size))
        have HWW4 := Lib.hid (HBW.out.trans (hHeld.mono HBW.out.size))
        obtain ⟨y0, y1, y2, y3, y4⟩ := HUO.out.1
        have RDY := Lib.hid (part_rdy (w := w) (wx := W4) HRD.out (i := i) (by have := HN.out; have := HLT.out; omega) (q := m.n) (by rw [HM.out]; exact Nat.le_refl _) HWW4.out (bs := bs) HSL4.out (by rw [HM.out]; exact HSC4.out))
        have CRW : Hid (Calls Tryd.prog 9 #[.agg #[.int .i64 u.H, .int .i64 u.W, .int .i64 u.C, .int .i64 u.cl, .slice (some ⟨bs, 0, none⟩) 1 1]] W4 fun e w' => e = .returned (.bool true) ∧ Below W4.heap.size W4 w') :=
          Lib.hid (by have q := zbd _ _ W4 RDY.out (HT.out.grown HWW4.out); rw [rg_whole HRG.out (by have := HN.out; have := HLT.out; omega) _ m HM.out] at q; exact q)
        have y5 : W4.cell? ⟨bo, 0, none⟩ = some (.int .i64 u.H) := y0
        have y6 : W4.cell? ⟨bo, 1, none⟩ = some (.int .i64 u.W) := y1
        have y7 : W4.cell? ⟨bo, 2, none⟩ = some (.int .i64 u.C) := y2
        have y8 : W4.cell? ⟨bo, 3, none⟩ = some (.int .i64 u.cl) := y3
        have y9 : W4.cell? ⟨bo, 4, none⟩ = some (.slice (some ⟨bs, 0, none⟩) 1 1) := y4
        have HHW4 := Lib.hid hHeld
        clear hHeld HFX HFL HSC4 HSL4 y0 y1 y2 y3 y4 RDY
        go_upto_region 10 with (go_at_call 9; (refine CRW.out.mono ?_); rintro e W5 ⟨rfl, hb⟩; (have HB5 := Lib.hid (HB4.out.trans (hb.mono HB4.out.size))); (have HU5 := Lib.hid (HUO.out.below HOL4.out hb)); (have HL5 := Lib.hid (Nat.lt_of_lt_of_le HOL4.out hb.size)); (have HH5 := Lib.hid (HHW4.out.trans (hb.mono HHW4.out.size))); clear hb y5 y6 y7 y8 y9; have c4 := HUC.out _ HB5.out; have cm0 := HCM.out _ HH5.out)
        clear c4 cm0 CRW HHW4 HB4 HUO HOL4 HWW4
        have HU6 : Hid (∃ A q, UOk bo (partU u i q A) W5) := Lib.hid ⟨_, _, HU5.out⟩
        clear HU5
        obtain ⟨n2, hn2⟩ : ∃ q, m.n = q := ⟨_, rfl⟩
        have HN2 := Lib.hid hn2
        try rw [hn2]
        clear hn2
        have HN8 : Hid (n2 ≤ 8) := Lib.hid (by have q := (HRD.out.few.2 i (by have := HN.out; have := HLT.out; omega)).1; rw [HM.out, HN2.out] at q; exact q)
        have HMO : Hid (MdOk w w.heap.size m) := Lib.hid (by have q := HRD.out.ok.each i (by have := HN.out; have := HLT.out; omega); rw [HM.out] at q; exact q)
        have HB05 : Hid (Below w.heap.size w W5) := Lib.hid (HB2.out.trans (HB5.out.mono HB2.out.size))
        have HBO2 : Hid (w.heap.size < bo) := Lib.hid (by have := HFG.out; have := HBW.out.size; have := HW.out.size; have := HS2.out; omega)
        go_wp2_with fail
        go_loopw [6] (fun s wx => ∃ k : Nat, k ≤ n2 ∧ s = .int .i64 k ∧ Hid (∃ A q, UOk bo (partU u i q A) wx) ∧ Hid (Below bo W5 wx)) (fun s _ => n2 - (intOf s).toNat)
        case atStart => exact ⟨0, Nat.zero_le _, rfl, HU6, Lib.hid (Below.refl _ _)⟩
        case round =>
          obtain ⟨k, hk, rfl, HUK, HBK⟩ := hrel
          clear HU6
          have HWI : Hid (Below w.heap.size w wr) := Lib.hid (HB05.out.trans (HBK.out.mono (by have := HBO2.out; omega)))
          by_cases hlk : k < n2
          · have k5 : (0 : Int) ≤ (k : Int) := by omega
            have k6 : (k : Int) < (n2 : Int) := by omega
            have hkn : k < m.n := by have := HN2.out; omega
            obtain ⟨bb, ob, hBe, hbb, hb0, hb1, hb2, hb3, hb4⟩ := blk_cells (HMO.out.below HWI.out) hkn
            obtain ⟨q, hq⟩ : ∃ q, k + 1 = q := ⟨_, rfl⟩
            have HQ := Lib.hid hq
            have hc := HMO.out.cap.1
            obtain ⟨cm, hcm⟩ : ∃ cm, m.c = cm := ⟨_, rfl⟩
            rw [hcm, HN2.out] at hc
            have HCC := Lib.hid hcm
            obtain ⟨ex, hex⟩ : ∃ ex, (m.K k).ex = ex := ⟨_, rfl⟩
            have HEX := Lib.hid hex
            have s0 : IntKind.i64.wrap ((k : Int) + 1) = (q : Int) := by rw [← hq]; exact IntWalk.i64_in _ (by have := HN8.out; omega)
            have s1 : (0 : Int) ≤ (q : Int) := by omega
            have s2 : (q : Int) ≤ (cm : Int) := by omega
            have s3 : q ≤ cm := by omega
            obtain ⟨A9, q9, hu9⟩ := HUK.out
            have HU9 := Lib.hid hu9
            obtain ⟨⟨y0, y1, y2, y3, y4⟩, y5, y6, y7, y8, y9⟩ := hu9
            have HBL : Hid (bo < wr.heap.size) := Lib.hid (Kit.block_lt y0)
            have HBI : Hid (Below bo W5 (wr.alloc (.cells #[.slice m.A q m.c] 34))) := Lib.hid (HBK.out.alloc (by have := HBL.out; omega) _)
            rw [hBe]
            try rw [hcm]
            have HBE := Lib.hid hBe
            have HXB : Hid (∀ wx, Below wr.heap.size wr wx → wx.cell? ⟨bb, ob + k * 5 + 1, none⟩ = some (.bool ex)) := Lib.hid (fun wx hb => (hb.cell (p := ⟨bb, ob + k * 5 + 1, none⟩) (Nat.lt_of_lt_of_le hbb HWI.out.size)).trans (by rw [← hex]; exact hb1))
            have HBQ : Hid (bb < wr.heap.size) := Lib.hid (Nat.lt_of_lt_of_le hbb HWI.out.size)
            have HBQ2 : Hid (bb < bo) := Lib.hid (by have := HBO2.out; omega)
            clear hq hcm hex hBe hbb hb0 hb1 hb2 hb3 hb4 hkn hc
            have hbl : bo < wr.heap.size := HBL.out
            go_upto_region 14 with fail
            clear y0 y1 y2 y3 y4 y5 y6 y7 y8 y9 hbl s0 s1 s2 s3
            have hss : (wr.setCell ⟨bo, 4, none⟩ (.slice (some ⟨wr.heap.size, 0, none⟩) 1 1)).heap.size = wr.heap.size := World.size_setCell ..
            have hal : Below wr.heap.size (wr.setCell ⟨bo, 4, none⟩ (.slice (some ⟨wr.heap.size, 0, none⟩) 1 1)) ((wr.setCell ⟨bo, 4, none⟩ (.slice (some ⟨wr.heap.size, 0, none⟩) 1 1)).alloc (.cells #[.slice (some ⟨bb, ob, none⟩) q cm] 34)) := (Below.refl _ _).alloc (by rw [hss]; exact Nat.le_refl _) _
            have HU8 : Hid (UOk bo (partU u i q (some ⟨wr.heap.size, 0, none⟩)) ((wr.setCell ⟨bo, 4, none⟩ (.slice (some ⟨wr.heap.size, 0, none⟩) 1 1)).alloc (.cells #[.slice (some ⟨bb, ob, none⟩) q cm] 34))) := Lib.hid ((HU9.out.set4 (some ⟨wr.heap.size, 0, none⟩) 1 1 (fun _ => ⟨(u.M i).A, q, (u.M i).c, (u.M i).K⟩)).below HBL.out hal)
            have HC8 : Hid (((wr.setCell ⟨bo, 4, none⟩ (.slice (some ⟨wr.heap.size, 0, none⟩) 1 1)).alloc (.cells #[.slice (some ⟨bb, ob, none⟩) q cm] 34)).cell? ⟨wr.heap.size, 0, none⟩ = some (.slice (some ⟨bb, ob, none⟩) q cm)) := Lib.hid (by
              have h := Kit.zac (wr.setCell ⟨bo, 4, none⟩ (.slice (some ⟨wr.heap.size, 0, none⟩) 1 1)) #[.slice (some ⟨bb, ob, none⟩) q cm] 34 0
              rw [hss] at h
              exact h)
            have HB8 : Hid (Below bo W5 ((wr.setCell ⟨bo, 4, none⟩ (.slice (some ⟨wr.heap.size, 0, none⟩) 1 1)).alloc (.cells #[.slice (some ⟨bb, ob, none⟩) q cm] 34))) := Lib.hid ((HBK.out.setCell (p := ⟨bo, 4, none⟩) (Nat.le_refl _) _).trans (hal.mono (Nat.le_of_lt HBL.out)))
            have HL8 : Hid (wr.heap.size < ((wr.setCell ⟨bo, 4, none⟩ (.slice (some ⟨wr.heap.size, 0, none⟩) 1 1)).alloc (.cells #[.slice (some ⟨bb, ob, none⟩) q cm] 34)).heap.size) := Lib.hid (by simp)
            have hx8 : ((wr.setCell ⟨bo, 4, none⟩ (.slice (some ⟨wr.heap.size, 0, none⟩) 1 1)).alloc (.cells #[.slice (some ⟨bb, ob, none⟩) q cm] 34)).cell? ⟨bb, ob + k * 5 + 1, none⟩ = some (.bool ex) := (hal.cell (p := ⟨bb, ob + k * 5 + 1, none⟩) HBQ.out).trans (by
              have h := HXB.out wr (Below.refl _ _)
              have hn : ¬ bb = bo := by have := HBQ2.out; omega
              have hn2 : ¬ bo = bb := fun e => hn e.symm
              go_cell)
            have HX8 : Hid (∀ wx, Below ((wr.setCell ⟨bo, 4, none⟩ (.slice (some ⟨wr.heap.size, 0, none⟩) 1 1)).alloc (.cells #[.slice (some ⟨bb, ob, none⟩) q cm] 34)).heap.size ((wr.setCell ⟨bo, 4, none⟩ (.slice (some ⟨wr.heap.size, 0, none⟩) 1 1)).alloc (.cells #[.slice (some ⟨bb, ob, none⟩) q cm] 34)) wx → wx.cell? ⟨bb, ob + k * 5 + 1, none⟩ = some (.bool ex)) := Lib.hid (fun wx hb => (hb.cell (p := ⟨bb, ob + k * 5 + 1, none⟩) (Nat.lt_trans HBQ.out HL8.out)).trans hx8)
            clear hss hal hx8
            generalize hbs2 : wr.heap.size = bs2 at *
            generalize ((wr.setCell ⟨bo, 4, none⟩ (.slice (some ⟨bs2, 0, none⟩) 1 1)).alloc (.cells #[.slice (some ⟨bb, ob, none⟩) q cm] 34)) = W6 at HU8 HC8 HB8 HL8 HX8 ⊢
            have HW6 : Hid (Below w.heap.size w W6) := Lib.hid (HB05.out.trans (HB8.out.mono (by have := HBO2.out; omega)))
            have RDY := Lib.hid (part_rdy (w := w) (wx := W6) HRD.out (i := i) (by have := HN.out; have := HLT.out; omega) (q := q) (by rw [HM.out, HN2.out]; have := HQ.out; omega) HW6.out (bs := bs2) HL8.out (by rw [HM.out, HBE.out, HCC.out]; exact HC8.out))
            have CRK : Hid (∀ wx, Below W6.heap.size W6 wx → Calls Tryd.prog 9 #[.agg #[.int .i64 u.H, .int .i64 u.W, .int .i64 u.C, .int .i64 u.cl, .slice (some ⟨bs2, 0, none⟩) 1 1]] wx fun e w' => e = .returned (.bool ex) ∧ Below wx.heap.size wx w') :=
              Lib.hid (fun wx hb => by
                have q := zbd _ _ wx (RDY.out.below hb) (HT.out.grown (HW6.out.trans (hb.mono HW6.out.size)))
                rw [← HQ.out, rg_first HRG.out (by have := HN.out; have := HLT.out; omega) _ m HM.out (by rw [HN2.out]; omega), HEX.out] at q
                exact q)
            have HUC6 : Hid (∀ wx, Below W6.heap.size W6 wx → UAt bo (partU u i q (some ⟨bs2, 0, none⟩)) wx) := Lib.hid (fun wx hb => HU8.out.1.below (Nat.lt_trans HBL.out HL8.out) hb)
            clear RDY HC8 hbs2 HU9 HUK
            refine wp_region_held_drew (S := fun wx => Below W6.heap.size W6 wx) (by kernel_rfl) (Below.refl _ _).drew (fun hHeld => ?_)
            generalize W6.drew = W7 at hHeld ⊢
            refine Tk.y 0 (v := .agg #[.int .i64 u.H, .int .i64 u.W, .int .i64 u.C, .int .i64 u.cl, .slice (some ⟨bs2, 0, none⟩) 1 1]) rfl ?_ ?_
            · intro wS hSw
              obtain ⟨q0, q1, q2, q3, q4⟩ := HUC6.out wS hSw
              have r0 : wS.cell? ⟨bo, 0, none⟩ = some (.int .i64 u.H) := q0
              have r1 : wS.cell? ⟨bo, 1, none⟩ = some (.int .i64 u.W) := q1
              have r2 : wS.cell? ⟨bo, 2, none⟩ = some (.int .i64 u.C) := q2
              have r3 : wS.cell? ⟨bo, 3, none⟩ = some (.int .i64 u.cl) := q3
              have r4 : wS.cell? ⟨bo, 4, none⟩ = some (.slice (some ⟨bs2, 0, none⟩) 1 1) := q4
              clear q0 q1 q2 q3 q4
              first | (go_simp; done) | (go_simp; with_reducible rfl)
            try simp only [Tk.put]
            refine Tk.x 2 rfl ?_
            try simp only [Tk.put]
            refine Tk.x 3 rfl ?_
            try simp only [Tk.put]
            refine Tk.x 4 rfl ?_
            try simp only [Tk.put]
            refine Tk.x 5 rfl ?_
            try simp only [Tk.put]
            refine Tk.y 6 (v := .bool ex) rfl ?_ ?_
            · intro wS hSw
              have q0 := HX8.out wS hSw
              first | (go_simp; done) | (go_simp; with_reducible rfl)
            try simp only [Tk.put]
            refine Tk.s 1 rfl (fun Kq hK => ?_)
            go_simp
            go_at_call 9
            refine (CRK.out _ hHeld).mono ?_
            rintro e W8 ⟨rfl, hb⟩
            have hS2 := hHeld.trans (hb.mono hHeld.size)
            clear hHeld hb
            dsimp only
            refine hK.out _ _ hS2 (fun hHeld => ?_)
            clear hK Kq hS2
            try simp only [Tk.put]
            refine Tk.y 7 (v := .bool false) rfl ?_ ?_
            · intro wS hSw
              have q0 : (ex != ex) = false := by cases ex <;> rfl
              first | (go_simp; done) | (go_simp; with_reducible rfl)
            try simp only [Tk.put]
            refine wpAnyH_done (by kernel_rfl) ?_ _
            have HB9 := Lib.hid (HB8.out.trans (hHeld.mono (by have := HBL.out; have := HL8.out; omega)))
            have HU9 := Lib.hid (HU8.out.below (B' := W6.heap.size) (Nat.lt_trans HBL.out HL8.out) hHeld)
            have k9 : (k : Int) ≤ 8 := by have := HN8.out; omega
            clear hHeld
            go_wp2_with fail
            go_roundw
            case rel => exact ⟨k + 1, by omega, by go_num, Lib.hid ⟨_, _, HU9.out⟩, HB9⟩
            case measure => simp [intOf]; omega
          · obtain rfl : k = n2 := by omega
            have i9 : (i : Int) ≤ 4 := by have := HN4.out; have := HLT.out; omega
            go_wp2_with fail
            go_roundw
            case rel => exact ⟨i + 1, by have := HLT.out; omega, by go_num, Lib.hid (HB5.out.trans (HBK.out.mono (by have := HFG.out; have := HW.out.size; omega)))⟩
            case measure => have := HLT.out; simp [intOf]; omega
    · obtain rfl : i = n := by omega
      go_wp2_with (go_at_call 6; (refine (known33 _ (HT.out.grown HBW.out)).mono ?_); rintro e w9 ⟨rfl, hb9⟩)
      go_ret
      exact ⟨rfl, HBW.out.trans (hb9.mono HBW.out.size)⟩
/-! ### the frame: written by program -/
theorem own : ownKnob Tryd.prog.godebug = none := by kernel_rfl
theorem laid : laidOutB Tryd.prog = true := by kernel_rfl
theorem contract {H : Type} {enc : TypeId × Value → H} {W : World} {base : Nat} {args : Array Value} {ds gs : List (DataW H)} {before : List MemPlace}
    (hval0 : ∀ (j : Nat) t v, Tryd.f4.params[j]? = some t → args[j]? = some v → Value.okWide Tryd.prog W .any base t v)
    (hW : DataW.Whole enc Tryd.prog Tryd.f4.params.toList Rows.validPartsSpec.vars false W args.toList ds gs before)
    (hL : laidMetH Tryd.prog [("stepwell/kinds.names", Rows.laid_stepwell_kinds_names)] W) :
    Calls Tryd.prog 4 args W fun e W' => e = .returned (.bool true) ∧ Below W.heap.size W W' := by
  have hval : ∀ (j : Nat) t v, Tryd.f4.params[j]? = some t → args[j]? = some v → Value.okWide Tryd.prog W .any base t v := hval0
  obtain ⟨p, q, hA0, hV, rfl, hfz, hnd⟩ := hW
  have hA : DataW.TrodAll enc Tryd.prog W 0 (fun _ => true) true Tryd.f4.params.toList args.toList ds p := hA0
  rw [Tryd.params4] at hA hval
  obtain ⟨v0, vs0, d0, ds0, p0, q0, hargs, rfl, rfl, h0, r0⟩ := trodAll_cons hA
  obtain ⟨rfl, rfl, rfl⟩ := trodAll_nil r0
  obtain rfl : args = #[v0] := by cases args; simp_all
  clear hA0 hval0
  obtain ⟨u0, rfl, hu0⟩ := CBund.open_bundle (hval 0 37 v0 rfl rfl) h0
  exact walk (w := W) u0 hu0 (of_laid hL)
theorem fnIs {H : Type} : ∀ ds : List (DataW H), ds.length = Tryd.f4.params.toList.length → Rows.validPartsSpec.fn H ds = { results := [.lit (.bool true)], args := ds } := by
  intro ds h
  rw [Tryd.params4] at h
  match ds, h with
  | [d1], _ => rfl
theorem door_met (os : Os) (args : Array Value) : laidMetH Tryd.prog [("stepwell/kinds.names", Rows.laid_stepwell_kinds_names)] ((World.doorLaid Tryd.prog 400 os).forCall (fun _ _ => 0) ⟨#[], args, []⟩).memory :=
  laidMetH_of_parts3 (fuel := 8) (laidMet_of_run' 8 (by kernel_rfl) (by kernel_rfl)) (by kernel_rfl) (by kernel_rfl)
set_option maxRecDepth 100000 in
theorem lifted (os : Os) (started : os.Started) (H : Type) (enc : TypeId × Value → H) :
    ReturnsInHanded {} Tryd.checked os 4 .any (fun w args => (Rows.validPartsSpec.pre enc Tryd.prog Tryd.f4 [] false w args ∧ laidMetH Tryd.prog [("stepwell/kinds.names", Rows.laid_stepwell_kinds_names)] w) ∧ sizedMet enc Tryd.prog Tryd.f4 (OpenSpec.ofChange Rows.validPartsSpec) false w args) (Rows.validPartsSpec.post enc Tryd.prog Tryd.f4 false true false false) := by
  refine returnsInHanded_of_change_and (C := Tryd.checked) (X := fun w _ => laidMetH Tryd.prog [("stepwell/kinds.names", Rows.laid_stepwell_kinds_names)] w) (fun _ _ _ hh h => h.of_heap hh) own started (by kernel_rfl) Tryd.func4
    (ChangeSpec.witness_shaped (enc := enc) (C := Tryd.checked) (os := os) (X := fun w _ => laidMetH Tryd.prog [("stepwell/kinds.names", Rows.laid_stepwell_kinds_names)] w) false (World.doorLaid Tryd.prog 400 os) #[.agg #[.int .i64 0, .int .i64 0, .int .i64 0, .int .i64 0, .slice none 0 0]] 8 rfl (World.shaped_of_RefB (by kernel_rfl) (by kernel_rfl)) (by kernel_rfl) (by kernel_rfl) (by kernel_rfl) (door_met os _)) ?_
  intro W base args ds gs before hval hW _ _ hL _
  refine (contract hval hW hL).mono fun e W' ⟨he, hg⟩ => ?_
  subst he
  exact ⟨_, rfl, Kit.law_post (tb := 4) laid (by kernel_rfl) rfl (by kernel_rfl) Tryd.underlying4 fnIs hW hg⟩
theorem over : Rows.validPartsRow.holds Tryd.pinned (OpenSpec.ofChange Rows.validPartsSpec) :=
  OpenClaim.holds_of_wide 4 Tryd.f4 rfl rfl rfl rfl rfl rfl rfl ⟨rfl, rfl, rfl, rfl, rfl⟩ rfl rfl rfl rfl rfl (by kernel_rfl) Tryd.func4 (by kernel_rfl)
    (of_decide_eq_true (by kernel_rfl)) (by unfold Func.isWrapper; first | (rw [if_pos (by decide +kernel)]; kernel_rfl) | (rw [if_neg (by decide +kernel)]; exact ⟨rfl, rfl⟩))
    (fun os started H enc _ => lifted os started H enc)
/-- the statement: the tied card. -/
theorem proved : Rows.ValidPartsCardSaid :=
  Claim7.holds_tied_plain_at .later [] [.data] true (true, "81e7372154e57c08e1293dad56667cc7252e67de753d5e9965f365922b20ce17") false
    over (fun _ h => by cases h) (by kernel_rfl) (fun _ h => by cases h) validParts_row_tie rfl ⟨rfl, rfl⟩ (by kernel_rfl) rfl
    (fun f fn hf hfn => by
      obtain rfl : f = 4 := Option.some.inj ((show Tryd.prog.funcNamed "stepwell/stepwelllaw33.ValidParts" = some 4 by kernel_rfl).symm.trans hf) |>.symm
      obtain rfl : fn = Tryd.f4 := (Option.some.inj (Tryd.func4.symm.trans hfn)).symm
      exact ⟨by kernel_rfl, fun j t ht => by
        rw [Tryd.params4] at ht
        have hm : t ∈ [37] := by simpa using Array.mem_of_getElem? ht
        have hall : ([37].all fun u => !Tryd.prog.wantsStandIn u) = true := by kernel_rfl
        exact (show Tryd.prog.wantsStandIn t = false by simpa using List.all_eq_true.1 hall t hm)⟩)
    (by kernel_rfl)
end Go.Proofs.YtoffcaldhojjoaaDoor.lawValidParts
