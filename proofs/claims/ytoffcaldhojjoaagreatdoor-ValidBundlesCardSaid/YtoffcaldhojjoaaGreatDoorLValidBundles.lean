/- Layer 33 (valid), ValidBundles: whether any bundle may be, what is wrong with it first, and where, is what the document says, whatever the bundle; the call returns true and leaves its argument as it was. The names of the kinds are listed as the program's text lays them. Written by gen_valid7.py. -/
import Derived.Test.YtoffcaldhojjoaaGreatDoorTie
import Derived.Test.YtoffcaldhojjoaaGreatDoorCards
import Derived.Test.YtoffcaldhojjoaaGreatDoorGVU50
namespace Go.Proofs.YtoffcaldhojjoaaGreatDoor.CConv
end Go.Proofs.YtoffcaldhojjoaaGreatDoor.CConv
namespace Go.Proofs.YtoffcaldhojjoaaGreatDoor.CCost
end Go.Proofs.YtoffcaldhojjoaaGreatDoor.CCost
namespace Go.Proofs.YtoffcaldhojjoaaGreatDoor.CFix
end Go.Proofs.YtoffcaldhojjoaaGreatDoor.CFix
namespace Go.Proofs.YtoffcaldhojjoaaGreatDoor.CGraph
end Go.Proofs.YtoffcaldhojjoaaGreatDoor.CGraph
namespace Go.Proofs.YtoffcaldhojjoaaGreatDoor.CKind
end Go.Proofs.YtoffcaldhojjoaaGreatDoor.CKind
namespace Go.Proofs.YtoffcaldhojjoaaGreatDoor.CSat
end Go.Proofs.YtoffcaldhojjoaaGreatDoor.CSat
namespace Go.Proofs.YtoffcaldhojjoaaGreatDoor.CSpan
end Go.Proofs.YtoffcaldhojjoaaGreatDoor.CSpan
namespace Go.Proofs.YtoffcaldhojjoaaGreatDoor.CTensor
end Go.Proofs.YtoffcaldhojjoaaGreatDoor.CTensor
namespace Go.Proofs.YtoffcaldhojjoaaGreatDoor.lawValidBundles
open Go Go.ChangeShapes Go.WideShapes Go.ChangeAt Go.RowKit Go.Deep
open Plain CSat CFix CShape CTensor CConv CSpan CKind CGraph CJoin CGuard CBund CCost CVerd CValid
set_option maxRecDepth 100000
set_option linter.unusedVariables false
set_option linter.unusedSimpArgs false
theorem qok_set4 {B : Nat} {q : Flt} {w : World} (h : QOk B q w) (v : Flt) : QOk B v ((((w.setCell ⟨B, 0, none⟩ (.int .i64 v.1)).setCell ⟨B, 1, none⟩ (.int .i64 v.2.1)).setCell ⟨B, 2, none⟩ (.int .i64 v.2.2.1)).setCell ⟨B, 3, none⟩ (.int .i64 v.2.2.2)) := by
  obtain ⟨⟨h0, h1, h2, h3⟩, f0, f1, f2, f3⟩ := h
  exact ⟨⟨by go_cell, by go_cell, by go_cell, by go_cell⟩, by go_cell, by go_cell, by go_cell, by go_cell⟩
theorem QAt.below {B B' : Nat} {q : Flt} {w w' : World} (h : QAt B q w) (hB : B < B') (hb : Below B' w w') : QAt B q w' :=
  ⟨(hb.cell (p := ⟨B, 0, none⟩) hB).trans h.1, (hb.cell (p := ⟨B, 1, none⟩) hB).trans h.2.1, (hb.cell (p := ⟨B, 2, none⟩) hB).trans h.2.2.1, (hb.cell (p := ⟨B, 3, none⟩) hB).trans h.2.2.2⟩
set_option maxHeartbeats 64000000 in
theorem walk {w : World} (u : Bu) (hu : BuOk w w.heap.size u) (hT : zan w) :
    Calls Tryz.prog 3 #[.agg u.val.toArray] w fun e w' => e = .returned (.bool true) ∧ Below w.heap.size w w' := by
  obtain ⟨S, hS⟩ := sets_of hu
  have CB0 : Hid (∀ (hf : FewBu u) (wx : World), Below w.heap.size w wx → Calls Tryz.prog 6 #[.agg u.val.toArray] wx (SaysQ (bunV u S) wx)) :=
    Lib.hid (fun hf wx hx => cbundle33_to u S wx ((⟨hu, hS, hf⟩ : BuRdy w u S).below hx) (hT.grown hx))
  have CB1 : Hid (∀ (hf : FewBu u) (wx : World), Below w.heap.size w wx → Calls Tryz.prog 7 #[.agg u.val.toArray] wx (SaysQ (bunV u S) wx)) :=
    Lib.hid (fun hf wx hx => rbundle33_to u S wx ((⟨hu, hS, hf⟩ : BuRdy w u S).below hx))
  have CR0 : Hid (∀ (hf : FewBu u) (wx : World), Below w.heap.size w wx → Calls Tryz.prog 8 #[.agg u.val.toArray] wx fun e w' => e = .returned (.bool (rgB u S)) ∧ Below wx.heap.size wx w') :=
    Lib.hid (fun hf wx hx => cright33_to u S wx ((⟨hu, hS, hf⟩ : BuRdy w u S).below hx) (hT.grown hx))
  have CR1 : Hid (∀ (hf : FewBu u) (wx : World), Below w.heap.size w wx → Calls Tryz.prog 9 #[.agg u.val.toArray] wx fun e w' => e = .returned (.bool (rgB u S)) ∧ Below wx.heap.size wx w') :=
    Lib.hid (fun hf wx hx => rright33_to u S wx ((⟨hu, hS, hf⟩ : BuRdy w u S).below hx))
  generalize bunV u S = V at CB0 CB1
  generalize rgB u S = rg at CR0 CR1
  unfold SaysQ at CB0 CB1
  have HB0 := Lib.hid ((Below.refl w.heap.size w).alloc (Nat.le_refl _) (.cells u.val.toArray 26))
  have HU := Lib.hid (UAt.new u 26 w)
  have HSZ : Hid (w.heap.size < (w.alloc (.cells u.val.toArray 26)).heap.size) := Lib.hid (by simp)
  have HUK := Lib.hid hu
  have HT := Lib.hid hT
  clear hu hS hT
  go_enter Tryz.func3, Tryz.ntmps3
  go_upto_region 1 with fail
  generalize w.alloc (.cells u.val.toArray 26) = WB at HB0 HU HSZ ⊢
  obtain ⟨c0, c1, c2, c3, c4⟩ := HU.out
  go_upto_region 3 with (first
    | (go_at_call 4
       refine (rfew33_to u _ ((HUK.out.below HB0.out).more HB0.out.size)).mono ?_
       rintro e w1 ⟨bf, rfl, hfew, hb⟩
       have HB1 := Lib.hid (HB0.out.trans (hb.mono HB0.out.size))
       have HU1 := Lib.hid (HU.out.below HSZ.out hb)
       have HS1 := Lib.hid (Nat.lt_of_lt_of_le HSZ.out hb.size)
       have HFW : Hid (FewIs bf (FewBu u)) := Lib.hid hfew
       clear hfew hb c0 c1 c2 c3 c4
       rcases bf with _ | _)
    | (go_at_call 5
       refine (known33 _ (HT.out.grown HB1.out)).mono ?_
       rintro e w9 ⟨rfl, hb9⟩))
  · go_ret
    exact ⟨rfl, HB1.out.trans (hb9.mono HB1.out.size)⟩
  obtain ⟨W0, hW0⟩ : ∃ W0, W0 = w1 := ⟨_, rfl⟩
  subst hW0
  have CBC := Lib.hid (fun (wx : World) (hb : Below W0.heap.size W0 wx) => CB0.out (HFW.out rfl) wx (HB1.out.trans (hb.mono HB1.out.size)))
  have CBR := Lib.hid (fun (wx : World) (hb : Below W0.heap.size W0 wx) => CB1.out (HFW.out rfl) wx (HB1.out.trans (hb.mono HB1.out.size)))
  have CRC := Lib.hid (fun (wx : World) (hb : Below W0.heap.size W0 wx) => CR0.out (HFW.out rfl) wx (HB1.out.trans (hb.mono HB1.out.size)))
  have CRR := Lib.hid (fun (wx : World) (hb : Below W0.heap.size W0 wx) => CR1.out (HFW.out rfl) wx (HB1.out.trans (hb.mono HB1.out.size)))
  have HUC : Hid (∀ wx, Below W0.heap.size W0 wx → UAt w.heap.size u wx) := Lib.hid (fun wx hb => HU1.out.below HS1.out hb)
  clear CB0 CB1 CR0 CR1 HU HU1 HSZ HB0
  go_cut [3, 4] from 9 to 13 (fun s3 s4 wx => ∃ g3 g4 : Nat, s3 = .pointer (some ⟨g3, 0, none⟩) ∧ s4 = .pointer (some ⟨g4, 0, none⟩) ∧ Hid (QAt g3 V wx) ∧ Hid (QAt g4 V wx) ∧ Hid (Below W0.heap.size W0 wx))
  case first =>
    refine wp_region_held_drew (S := fun wx => Below W0.heap.size W0 wx) (by kernel_rfl) (Below.refl _ _).drew (fun hHeld => ?_)
    generalize W0.drew = W1 at hHeld ⊢
    refine Tk.y 0 (v := .agg #[.int .i64 u.H, .int .i64 u.W, .int .i64 u.C, .int .i64 u.cl, .slice u.A u.n u.c]) rfl ?_ ?_
    · intro wS hSw
      obtain ⟨q0, q1, q2, q3, q4⟩ := HUC.out wS hSw
      first | (go_simp; done) | (go_simp; with_reducible rfl)
    try simp only [Tk.put]
    refine Tk.y 2 (v := .agg #[.int .i64 u.H, .int .i64 u.W, .int .i64 u.C, .int .i64 u.cl, .slice u.A u.n u.c]) rfl ?_ ?_
    · intro wS hSw
      obtain ⟨q0, q1, q2, q3, q4⟩ := HUC.out wS hSw
      first | (go_simp; done) | (go_simp; with_reducible rfl)
    try simp only [Tk.put]
    refine wpAnyH_ready (rs := [1, 4, 5]) (by kernel_rfl) (by simp) ?_
    refine Tk.c rfl (fun Kq hK => ?_) (Tk.c rfl (fun Kq hK => ?_) (Tk.c rfl (fun Kq hK => ?_) AllReadyH.nil))
    · skip
      go_simp
      go_at_call 6
      refine (CBC.out _ hHeld).mono ?_
      rintro e W2 ⟨rfl, hb⟩
      have hS2 := hHeld.trans (hb.mono hHeld.size)
      clear hHeld hb
      dsimp only
      refine hK.out _ _ hS2 (fun hHeld => ?_)
      clear hK Kq hS2
      try simp only [Tk.put]
      refine wpAnyH_ready (rs := [3, 4, 5]) (by kernel_rfl) (by simp) ?_
      refine Tk.c rfl (fun Kq hK => ?_) (Tk.c rfl (fun Kq hK => ?_) (Tk.c rfl (fun Kq hK => ?_) AllReadyH.nil))
      · skip
        go_simp
        go_at_call 7
        refine (CBR.out _ hHeld).mono ?_
        rintro e W3 ⟨rfl, hb⟩
        have hS2 := hHeld.trans (hb.mono hHeld.size)
        clear hHeld hb
        dsimp only
        refine hK.out _ _ hS2 (fun hHeld => ?_)
        clear hK Kq hS2
        try simp only [Tk.put]
        refine wpAnyH_ready (rs := [4, 5]) (by kernel_rfl) (by simp) ?_
        refine Tk.c rfl (fun Kq hK => ?_) (Tk.c rfl (fun Kq hK => ?_) AllReadyH.nil)
        · skip
          go_simp
          have hS2 := hHeld.alloc hHeld.size (.cells #[.int .i64 0, .int .i64 0, .int .i64 0, .int .i64 0] 31)
          have HX4 := Lib.hid (QOk.new (0, 0, 0, 0) 31 W3)
          have HL4 : Hid (W3.heap.size < (W3.alloc (.cells #[.int .i64 0, .int .i64 0, .int .i64 0, .int .i64 0] 31)).heap.size) := Lib.hid (by simp)
          have HG4 : Hid (W0.heap.size ≤ W3.heap.size) := Lib.hid hHeld.size
          generalize hg4 : W3.heap.size = g4 at *
          generalize (W3.alloc (.cells #[.int .i64 0, .int .i64 0, .int .i64 0, .int .i64 0] 31)) = W4 at *
          clear hHeld hg4
          refine hK.out _ _ hS2 (fun hHeld => ?_)
          clear hK Kq hS2
          try simp only [Tk.put]
          refine Tk.s 5 rfl (fun Kq hK => ?_)
          go_simp
          have hS2 := hHeld.alloc hHeld.size (.cells #[.int .i64 0, .int .i64 0, .int .i64 0, .int .i64 0] 34)
          have HX5 := Lib.hid (QOk.new (0, 0, 0, 0) 34 W4)
          have HL5 : Hid (W4.heap.size < (W4.alloc (.cells #[.int .i64 0, .int .i64 0, .int .i64 0, .int .i64 0] 34)).heap.size) := Lib.hid (by simp)
          have HG5 : Hid (W0.heap.size ≤ W4.heap.size) := Lib.hid hHeld.size
          have hal : Below W4.heap.size W4 (W4.alloc (.cells #[.int .i64 0, .int .i64 0, .int .i64 0, .int .i64 0] 34)) := (Below.refl _ _).alloc (Nat.le_refl _) _
          replace HX4 := Lib.hid (HX4.out.below HL4.out hal)
          have HD : Hid (W4.heap.size ≠ g4) := Lib.hid (by have := HL4.out; omega)
          replace HL4 : Hid (g4 < (W4.alloc (.cells #[.int .i64 0, .int .i64 0, .int .i64 0, .int .i64 0] 34)).heap.size) := Lib.hid (Nat.lt_of_lt_of_le HL4.out hal.size)
          clear hal
          generalize hg5 : W4.heap.size = g5 at *
          generalize (W4.alloc (.cells #[.int .i64 0, .int .i64 0, .int .i64 0, .int .i64 0] 34)) = W5 at *
          clear hHeld hg5
          refine hK.out _ _ hS2 (fun hHeld => ?_)
          clear hK Kq hS2
          try simp only [Tk.put]
          obtain ⟨⟨z0, z1, z2, z3⟩, z4, z5, z6, z7⟩ := HX4.out
          have HNE : Hid (g5 ≠ g4) := Lib.hid HD.out
          have HNE2 : Hid (g4 ≠ g5) := Lib.hid (fun e => HD.out e.symm)
          refine Tk.s 6 rfl (fun Kq hK => ?_)
          go_simp
          clear z0 z1 z2 z3 z4 z5 z6 z7
          have hS2 : Below W0.heap.size W0 ((((W5.setCell ⟨g4, 0, none⟩ (.int .i64 V.1)).setCell ⟨g4, 1, none⟩ (.int .i64 V.2.1)).setCell ⟨g4, 2, none⟩ (.int .i64 V.2.2.1)).setCell ⟨g4, 3, none⟩ (.int .i64 V.2.2.2)) := (((hHeld.setCell (p := ⟨g4, 0, none⟩) HG4.out _).setCell (p := ⟨g4, 1, none⟩) HG4.out _).setCell (p := ⟨g4, 2, none⟩) HG4.out _).setCell (p := ⟨g4, 3, none⟩) HG4.out _
          have HY4 : Hid (QOk g4 V ((((W5.setCell ⟨g4, 0, none⟩ (.int .i64 V.1)).setCell ⟨g4, 1, none⟩ (.int .i64 V.2.1)).setCell ⟨g4, 2, none⟩ (.int .i64 V.2.2.1)).setCell ⟨g4, 3, none⟩ (.int .i64 V.2.2.2))) := Lib.hid (qok_set4 HX4.out V)
          replace HX5 : Hid (QOk g5 (0, 0, 0, 0) ((((W5.setCell ⟨g4, 0, none⟩ (.int .i64 V.1)).setCell ⟨g4, 1, none⟩ (.int .i64 V.2.1)).setCell ⟨g4, 2, none⟩ (.int .i64 V.2.2.1)).setCell ⟨g4, 3, none⟩ (.int .i64 V.2.2.2))) := Lib.hid ((((HX5.out.other HNE.out).other HNE.out).other HNE.out).other HNE.out)
          generalize ((((W5.setCell ⟨g4, 0, none⟩ (.int .i64 V.1)).setCell ⟨g4, 1, none⟩ (.int .i64 V.2.1)).setCell ⟨g4, 2, none⟩ (.int .i64 V.2.2.1)).setCell ⟨g4, 3, none⟩ (.int .i64 V.2.2.2)) = W5a at hS2 HY4 HX5 ⊢
          clear hHeld
          refine hK.out _ _ hS2 (fun hHeld => ?_)
          clear hK Kq hS2
          try simp only [Tk.put]
          obtain ⟨⟨z0, z1, z2, z3⟩, z4, z5, z6, z7⟩ := HX5.out
          refine Tk.s 7 rfl (fun Kq hK => ?_)
          go_simp
          clear z0 z1 z2 z3 z4 z5 z6 z7
          have hS2 : Below W0.heap.size W0 ((((W5a.setCell ⟨g5, 0, none⟩ (.int .i64 V.1)).setCell ⟨g5, 1, none⟩ (.int .i64 V.2.1)).setCell ⟨g5, 2, none⟩ (.int .i64 V.2.2.1)).setCell ⟨g5, 3, none⟩ (.int .i64 V.2.2.2)) := (((hHeld.setCell (p := ⟨g5, 0, none⟩) HG5.out _).setCell (p := ⟨g5, 1, none⟩) HG5.out _).setCell (p := ⟨g5, 2, none⟩) HG5.out _).setCell (p := ⟨g5, 3, none⟩) HG5.out _
          have HY5 : Hid (QOk g5 V ((((W5a.setCell ⟨g5, 0, none⟩ (.int .i64 V.1)).setCell ⟨g5, 1, none⟩ (.int .i64 V.2.1)).setCell ⟨g5, 2, none⟩ (.int .i64 V.2.2.1)).setCell ⟨g5, 3, none⟩ (.int .i64 V.2.2.2))) := Lib.hid (qok_set4 HX5.out V)
          replace HY4 : Hid (QOk g4 V ((((W5a.setCell ⟨g5, 0, none⟩ (.int .i64 V.1)).setCell ⟨g5, 1, none⟩ (.int .i64 V.2.1)).setCell ⟨g5, 2, none⟩ (.int .i64 V.2.2.1)).setCell ⟨g5, 3, none⟩ (.int .i64 V.2.2.2))) := Lib.hid ((((HY4.out.other HNE2.out).other HNE2.out).other HNE2.out).other HNE2.out)
          generalize ((((W5a.setCell ⟨g5, 0, none⟩ (.int .i64 V.1)).setCell ⟨g5, 1, none⟩ (.int .i64 V.2.1)).setCell ⟨g5, 2, none⟩ (.int .i64 V.2.2.1)).setCell ⟨g5, 3, none⟩ (.int .i64 V.2.2.2)) = W5b at hS2 HY5 HY4 ⊢
          clear hHeld
          refine hK.out _ _ hS2 (fun hHeld => ?_)
          clear hK Kq hS2
          try simp only [Tk.put]
          refine wpAnyH_done (by kernel_rfl) ?_ _
          go_wp2_with fail
          go_meet
          exact ⟨_, _, rfl, rfl, Lib.hid HY4.out.1, Lib.hid HY5.out.1, Lib.hid hHeld⟩
        · skip
          go_simp
          have hS2 := hHeld.alloc hHeld.size (.cells #[.int .i64 0, .int .i64 0, .int .i64 0, .int .i64 0] 34)
          have HX5 := Lib.hid (QOk.new (0, 0, 0, 0) 34 W3)
          have HL5 : Hid (W3.heap.size < (W3.alloc (.cells #[.int .i64 0, .int .i64 0, .int .i64 0, .int .i64 0] 34)).heap.size) := Lib.hid (by simp)
          have HG5 : Hid (W0.heap.size ≤ W3.heap.size) := Lib.hid hHeld.size
          generalize hg5 : W3.heap.size = g5 at *
          generalize (W3.alloc (.cells #[.int .i64 0, .int .i64 0, .int .i64 0, .int .i64 0] 34)) = W6 at *
          clear hHeld hg5
          refine hK.out _ _ hS2 (fun hHeld => ?_)
          clear hK Kq hS2
          try simp only [Tk.put]
          refine Tk.s 4 rfl (fun Kq hK => ?_)
          go_simp
          have hS2 := hHeld.alloc hHeld.size (.cells #[.int .i64 0, .int .i64 0, .int .i64 0, .int .i64 0] 31)
          have HX4 := Lib.hid (QOk.new (0, 0, 0, 0) 31 W6)
          have HL4 : Hid (W6.heap.size < (W6.alloc (.cells #[.int .i64 0, .int .i64 0, .int .i64 0, .int .i64 0] 31)).heap.size) := Lib.hid (by simp)
          have HG4 : Hid (W0.heap.size ≤ W6.heap.size) := Lib.hid hHeld.size
          have hal : Below W6.heap.size W6 (W6.alloc (.cells #[.int .i64 0, .int .i64 0, .int .i64 0, .int .i64 0] 31)) := (Below.refl _ _).alloc (Nat.le_refl _) _
          replace HX5 := Lib.hid (HX5.out.below HL5.out hal)
          have HD : Hid (g5 ≠ W6.heap.size) := Lib.hid (by have := HL5.out; omega)
          replace HL5 : Hid (g5 < (W6.alloc (.cells #[.int .i64 0, .int .i64 0, .int .i64 0, .int .i64 0] 31)).heap.size) := Lib.hid (Nat.lt_of_lt_of_le HL5.out hal.size)
          clear hal
          generalize hg4 : W6.heap.size = g4 at *
          generalize (W6.alloc (.cells #[.int .i64 0, .int .i64 0, .int .i64 0, .int .i64 0] 31)) = W7 at *
          clear hHeld hg4
          refine hK.out _ _ hS2 (fun hHeld => ?_)
          clear hK Kq hS2
          try simp only [Tk.put]
          obtain ⟨⟨z0, z1, z2, z3⟩, z4, z5, z6, z7⟩ := HX4.out
          have HNE : Hid (g5 ≠ g4) := Lib.hid HD.out
          have HNE2 : Hid (g4 ≠ g5) := Lib.hid (fun e => HD.out e.symm)
          refine Tk.s 6 rfl (fun Kq hK => ?_)
          go_simp
          clear z0 z1 z2 z3 z4 z5 z6 z7
          have hS2 : Below W0.heap.size W0 ((((W7.setCell ⟨g4, 0, none⟩ (.int .i64 V.1)).setCell ⟨g4, 1, none⟩ (.int .i64 V.2.1)).setCell ⟨g4, 2, none⟩ (.int .i64 V.2.2.1)).setCell ⟨g4, 3, none⟩ (.int .i64 V.2.2.2)) := (((hHeld.setCell (p := ⟨g4, 0, none⟩) HG4.out _).setCell (p := ⟨g4, 1, none⟩) HG4.out _).setCell (p := ⟨g4, 2, none⟩) HG4.out _).setCell (p := ⟨g4, 3, none⟩) HG4.out _
          have HY4 : Hid (QOk g4 V ((((W7.setCell ⟨g4, 0, none⟩ (.int .i64 V.1)).setCell ⟨g4, 1, none⟩ (.int .i64 V.2.1)).setCell ⟨g4, 2, none⟩ (.int .i64 V.2.2.1)).setCell ⟨g4, 3, none⟩ (.int .i64 V.2.2.2))) := Lib.hid (qok_set4 HX4.out V)
          replace HX5 : Hid (QOk g5 (0, 0, 0, 0) ((((W7.setCell ⟨g4, 0, none⟩ (.int .i64 V.1)).setCell ⟨g4, 1, none⟩ (.int .i64 V.2.1)).setCell ⟨g4, 2, none⟩ (.int .i64 V.2.2.1)).setCell ⟨g4, 3, none⟩ (.int .i64 V.2.2.2))) := Lib.hid ((((HX5.out.other HNE.out).other HNE.out).other HNE.out).other HNE.out)
          generalize ((((W7.setCell ⟨g4, 0, none⟩ (.int .i64 V.1)).setCell ⟨g4, 1, none⟩ (.int .i64 V.2.1)).setCell ⟨g4, 2, none⟩ (.int .i64 V.2.2.1)).setCell ⟨g4, 3, none⟩ (.int .i64 V.2.2.2)) = W7a at hS2 HY4 HX5 ⊢
          clear hHeld
          refine hK.out _ _ hS2 (fun hHeld => ?_)
          clear hK Kq hS2
          try simp only [Tk.put]
          obtain ⟨⟨z0, z1, z2, z3⟩, z4, z5, z6, z7⟩ := HX5.out
          refine Tk.s 7 rfl (fun Kq hK => ?_)
          go_simp
          clear z0 z1 z2 z3 z4 z5 z6 z7
          have hS2 : Below W0.heap.size W0 ((((W7a.setCell ⟨g5, 0, none⟩ (.int .i64 V.1)).setCell ⟨g5, 1, none⟩ (.int .i64 V.2.1)).setCell ⟨g5, 2, none⟩ (.int .i64 V.2.2.1)).setCell ⟨g5, 3, none⟩ (.int .i64 V.2.2.2)) := (((hHeld.setCell (p := ⟨g5, 0, none⟩) HG5.out _).setCell (p := ⟨g5, 1, none⟩) HG5.out _).setCell (p := ⟨g5, 2, none⟩) HG5.out _).setCell (p := ⟨g5, 3, none⟩) HG5.out _
          have HY5 : Hid (QOk g5 V ((((W7a.setCell ⟨g5, 0, none⟩ (.int .i64 V.1)).setCell ⟨g5, 1, none⟩ (.int .i64 V.2.1)).setCell ⟨g5, 2, none⟩ (.int .i64 V.2.2.1)).setCell ⟨g5, 3, none⟩ (.int .i64 V.2.2.2))) := Lib.hid (qok_set4 HX5.out V)
          replace HY4 : Hid (QOk g4 V ((((W7a.setCell ⟨g5, 0, none⟩ (.int .i64 V.1)).setCell ⟨g5, 1, none⟩ (.int .i64 V.2.1)).setCell ⟨g5, 2, none⟩ (.int .i64 V.2.2.1)).setCell ⟨g5, 3, none⟩ (.int .i64 V.2.2.2))) := Lib.hid ((((HY4.out.other HNE2.out).other HNE2.out).other HNE2.out).other HNE2.out)
          generalize ((((W7a.setCell ⟨g5, 0, none⟩ (.int .i64 V.1)).setCell ⟨g5, 1, none⟩ (.int .i64 V.2.1)).setCell ⟨g5, 2, none⟩ (.int .i64 V.2.2.1)).setCell ⟨g5, 3, none⟩ (.int .i64 V.2.2.2)) = W7b at hS2 HY5 HY4 ⊢
          clear hHeld
          refine hK.out _ _ hS2 (fun hHeld => ?_)
          clear hK Kq hS2
          try simp only [Tk.put]
          refine wpAnyH_done (by kernel_rfl) ?_ _
          go_wp2_with fail
          go_meet
          exact ⟨_, _, rfl, rfl, Lib.hid HY4.out.1, Lib.hid HY5.out.1, Lib.hid hHeld⟩
      · skip
        go_simp
        have hS2 := hHeld.alloc hHeld.size (.cells #[.int .i64 0, .int .i64 0, .int .i64 0, .int .i64 0] 31)
        have HX4 := Lib.hid (QOk.new (0, 0, 0, 0) 31 W2)
        have HL4 : Hid (W2.heap.size < (W2.alloc (.cells #[.int .i64 0, .int .i64 0, .int .i64 0, .int .i64 0] 31)).heap.size) := Lib.hid (by simp)
        have HG4 : Hid (W0.heap.size ≤ W2.heap.size) := Lib.hid hHeld.size
        generalize hg4 : W2.heap.size = g4 at *
        generalize (W2.alloc (.cells #[.int .i64 0, .int .i64 0, .int .i64 0, .int .i64 0] 31)) = W8 at *
        clear hHeld hg4
        refine hK.out _ _ hS2 (fun hHeld => ?_)
        clear hK Kq hS2
        try simp only [Tk.put]
        refine wpAnyH_ready (rs := [3, 5]) (by kernel_rfl) (by simp) ?_
        refine Tk.c rfl (fun Kq hK => ?_) (Tk.c rfl (fun Kq hK => ?_) AllReadyH.nil)
        · skip
          go_simp
          go_at_call 7
          refine (CBR.out _ hHeld).mono ?_
          rintro e W9 ⟨rfl, hb⟩
          have hS2 := hHeld.trans (hb.mono hHeld.size)
          replace HX4 := Lib.hid (HX4.out.below HL4.out hb)
          replace HL4 := Lib.hid (Nat.lt_of_lt_of_le HL4.out hb.size)
          clear hHeld hb
          dsimp only
          refine hK.out _ _ hS2 (fun hHeld => ?_)
          clear hK Kq hS2
          try simp only [Tk.put]
          refine Tk.s 5 rfl (fun Kq hK => ?_)
          go_simp
          have hS2 := hHeld.alloc hHeld.size (.cells #[.int .i64 0, .int .i64 0, .int .i64 0, .int .i64 0] 34)
          have HX5 := Lib.hid (QOk.new (0, 0, 0, 0) 34 W9)
          have HL5 : Hid (W9.heap.size < (W9.alloc (.cells #[.int .i64 0, .int .i64 0, .int .i64 0, .int .i64 0] 34)).heap.size) := Lib.hid (by simp)
          have HG5 : Hid (W0.heap.size ≤ W9.heap.size) := Lib.hid hHeld.size
          have hal : Below W9.heap.size W9 (W9.alloc (.cells #[.int .i64 0, .int .i64 0, .int .i64 0, .int .i64 0] 34)) := (Below.refl _ _).alloc (Nat.le_refl _) _
          replace HX4 := Lib.hid (HX4.out.below HL4.out hal)
          have HD : Hid (W9.heap.size ≠ g4) := Lib.hid (by have := HL4.out; omega)
          replace HL4 : Hid (g4 < (W9.alloc (.cells #[.int .i64 0, .int .i64 0, .int .i64 0, .int .i64 0] 34)).heap.size) := Lib.hid (Nat.lt_of_lt_of_le HL4.out hal.size)
          clear hal
          generalize hg5 : W9.heap.size = g5 at *
          generalize (W9.alloc (.cells #[.int .i64 0, .int .i64 0, .int .i64 0, .int .i64 0] 34)) = W10 at *
          clear hHeld hg5
          refine hK.out _ _ hS2 (fun hHeld => ?_)
          clear hK Kq hS2
          try simp only [Tk.put]
          obtain ⟨⟨z0, z1, z2, z3⟩, z4, z5, z6, z7⟩ := HX4.out
          have HNE : Hid (g5 ≠ g4) := Lib.hid HD.out
          have HNE2 : Hid (g4 ≠ g5) := Lib.hid (fun e => HD.out e.symm)
          refine Tk.s 6 rfl (fun Kq hK => ?_)
          go_simp
          clear z0 z1 z2 z3 z4 z5 z6 z7
          have hS2 : Below W0.heap.size W0 ((((W10.setCell ⟨g4, 0, none⟩ (.int .i64 V.1)).setCell ⟨g4, 1, none⟩ (.int .i64 V.2.1)).setCell ⟨g4, 2, none⟩ (.int .i64 V.2.2.1)).setCell ⟨g4, 3, none⟩ (.int .i64 V.2.2.2)) := (((hHeld.setCell (p := ⟨g4, 0, none⟩) HG4.out _).setCell (p := ⟨g4, 1, none⟩) HG4.out _).setCell (p := ⟨g4, 2, none⟩) HG4.out _).setCell (p := ⟨g4, 3, none⟩) HG4.out _
          have HY4 : Hid (QOk g4 V ((((W10.setCell ⟨g4, 0, none⟩ (.int .i64 V.1)).setCell ⟨g4, 1, none⟩ (.int .i64 V.2.1)).setCell ⟨g4, 2, none⟩ (.int .i64 V.2.2.1)).setCell ⟨g4, 3, none⟩ (.int .i64 V.2.2.2))) := Lib.hid (qok_set4 HX4.out V)
          replace HX5 : Hid (QOk g5 (0, 0, 0, 0) ((((W10.setCell ⟨g4, 0, none⟩ (.int .i64 V.1)).setCell ⟨g4, 1, none⟩ (.int .i64 V.2.1)).setCell ⟨g4, 2, none⟩ (.int .i64 V.2.2.1)).setCell ⟨g4, 3, none⟩ (.int .i64 V.2.2.2))) := Lib.hid ((((HX5.out.other HNE.out).other HNE.out).other HNE.out).other HNE.out)
          generalize ((((W10.setCell ⟨g4, 0, none⟩ (.int .i64 V.1)).setCell ⟨g4, 1, none⟩ (.int .i64 V.2.1)).setCell ⟨g4, 2, none⟩ (.int .i64 V.2.2.1)).setCell ⟨g4, 3, none⟩ (.int .i64 V.2.2.2)) = W10a at hS2 HY4 HX5 ⊢
          clear hHeld
          refine hK.out _ _ hS2 (fun hHeld => ?_)
          clear hK Kq hS2
          try simp only [Tk.put]
          obtain ⟨⟨z0, z1, z2, z3⟩, z4, z5, z6, z7⟩ := HX5.out
          refine Tk.s 7 rfl (fun Kq hK => ?_)
          go_simp
          clear z0 z1 z2 z3 z4 z5 z6 z7
          have hS2 : Below W0.heap.size W0 ((((W10a.setCell ⟨g5, 0, none⟩ (.int .i64 V.1)).setCell ⟨g5, 1, none⟩ (.int .i64 V.2.1)).setCell ⟨g5, 2, none⟩ (.int .i64 V.2.2.1)).setCell ⟨g5, 3, none⟩ (.int .i64 V.2.2.2)) := (((hHeld.setCell (p := ⟨g5, 0, none⟩) HG5.out _).setCell (p := ⟨g5, 1, none⟩) HG5.out _).setCell (p := ⟨g5, 2, none⟩) HG5.out _).setCell (p := ⟨g5, 3, none⟩) HG5.out _
          have HY5 : Hid (QOk g5 V ((((W10a.setCell ⟨g5, 0, none⟩ (.int .i64 V.1)).setCell ⟨g5, 1, none⟩ (.int .i64 V.2.1)).setCell ⟨g5, 2, none⟩ (.int .i64 V.2.2.1)).setCell ⟨g5, 3, none⟩ (.int .i64 V.2.2.2))) := Lib.hid (qok_set4 HX5.out V)
          replace HY4 : Hid (QOk g4 V ((((W10a.setCell ⟨g5, 0, none⟩ (.int .i64 V.1)).setCell ⟨g5, 1, none⟩ (.int .i64 V.2.1)).setCell ⟨g5, 2, none⟩ (.int .i64 V.2.2.1)).setCell ⟨g5, 3, none⟩ (.int .i64 V.2.2.2))) := Lib.hid ((((HY4.out.other HNE2.out).other HNE2.out).other HNE2.out).other HNE2.out)
          generalize ((((W10a.setCell ⟨g5, 0, none⟩ (.int .i64 V.1)).setCell ⟨g5, 1, none⟩ (.int .i64 V.2.1)).setCell ⟨g5, 2, none⟩ (.int .i64 V.2.2.1)).setCell ⟨g5, 3, none⟩ (.int .i64 V.2.2.2)) = W10b at hS2 HY5 HY4 ⊢
          clear hHeld
          refine hK.out _ _ hS2 (fun hHeld => ?_)
          clear hK Kq hS2
          try simp only [Tk.put]
          refine wpAnyH_done (by kernel_rfl) ?_ _
          go_wp2_with fail
          go_meet
          exact ⟨_, _, rfl, rfl, Lib.hid HY4.out.1, Lib.hid HY5.out.1, Lib.hid hHeld⟩
        · skip
          go_simp
          have hS2 := hHeld.alloc hHeld.size (.cells #[.int .i64 0, .int .i64 0, .int .i64 0, .int .i64 0] 34)
          have HX5 := Lib.hid (QOk.new (0, 0, 0, 0) 34 W8)
          have HL5 : Hid (W8.heap.size < (W8.alloc (.cells #[.int .i64 0, .int .i64 0, .int .i64 0, .int .i64 0] 34)).heap.size) := Lib.hid (by simp)
          have HG5 : Hid (W0.heap.size ≤ W8.heap.size) := Lib.hid hHeld.size
          have hal : Below W8.heap.size W8 (W8.alloc (.cells #[.int .i64 0, .int .i64 0, .int .i64 0, .int .i64 0] 34)) := (Below.refl _ _).alloc (Nat.le_refl _) _
          replace HX4 := Lib.hid (HX4.out.below HL4.out hal)
          have HD : Hid (W8.heap.size ≠ g4) := Lib.hid (by have := HL4.out; omega)
          replace HL4 : Hid (g4 < (W8.alloc (.cells #[.int .i64 0, .int .i64 0, .int .i64 0, .int .i64 0] 34)).heap.size) := Lib.hid (Nat.lt_of_lt_of_le HL4.out hal.size)
          clear hal
          generalize hg5 : W8.heap.size = g5 at *
          generalize (W8.alloc (.cells #[.int .i64 0, .int .i64 0, .int .i64 0, .int .i64 0] 34)) = W11 at *
          clear hHeld hg5
          refine hK.out _ _ hS2 (fun hHeld => ?_)
          clear hK Kq hS2
          try simp only [Tk.put]
          refine Tk.s 3 rfl (fun Kq hK => ?_)
          go_simp
          go_at_call 7
          refine (CBR.out _ hHeld).mono ?_
          rintro e W12 ⟨rfl, hb⟩
          have hS2 := hHeld.trans (hb.mono hHeld.size)
          replace HX4 := Lib.hid (HX4.out.below HL4.out hb)
          replace HL4 := Lib.hid (Nat.lt_of_lt_of_le HL4.out hb.size)
          replace HX5 := Lib.hid (HX5.out.below HL5.out hb)
          replace HL5 := Lib.hid (Nat.lt_of_lt_of_le HL5.out hb.size)
          clear hHeld hb
          dsimp only
          refine hK.out _ _ hS2 (fun hHeld => ?_)
          clear hK Kq hS2
          try simp only [Tk.put]
          obtain ⟨⟨z0, z1, z2, z3⟩, z4, z5, z6, z7⟩ := HX4.out
          have HNE : Hid (g5 ≠ g4) := Lib.hid HD.out
          have HNE2 : Hid (g4 ≠ g5) := Lib.hid (fun e => HD.out e.symm)
          refine Tk.s 6 rfl (fun Kq hK => ?_)
          go_simp
          clear z0 z1 z2 z3 z4 z5 z6 z7
          have hS2 : Below W0.heap.size W0 ((((W12.setCell ⟨g4, 0, none⟩ (.int .i64 V.1)).setCell ⟨g4, 1, none⟩ (.int .i64 V.2.1)).setCell ⟨g4, 2, none⟩ (.int .i64 V.2.2.1)).setCell ⟨g4, 3, none⟩ (.int .i64 V.2.2.2)) := (((hHeld.setCell (p := ⟨g4, 0, none⟩) HG4.out _).setCell (p := ⟨g4, 1, none⟩) HG4.out _).setCell (p := ⟨g4, 2, none⟩) HG4.out _).setCell (p := ⟨g4, 3, none⟩) HG4.out _
          have HY4 : Hid (QOk g4 V ((((W12.setCell ⟨g4, 0, none⟩ (.int .i64 V.1)).setCell ⟨g4, 1, none⟩ (.int .i64 V.2.1)).setCell ⟨g4, 2, none⟩ (.int .i64 V.2.2.1)).setCell ⟨g4, 3, none⟩ (.int .i64 V.2.2.2))) := Lib.hid (qok_set4 HX4.out V)
          replace HX5 : Hid (QOk g5 (0, 0, 0, 0) ((((W12.setCell ⟨g4, 0, none⟩ (.int .i64 V.1)).setCell ⟨g4, 1, none⟩ (.int .i64 V.2.1)).setCell ⟨g4, 2, none⟩ (.int .i64 V.2.2.1)).setCell ⟨g4, 3, none⟩ (.int .i64 V.2.2.2))) := Lib.hid ((((HX5.out.other HNE.out).other HNE.out).other HNE.out).other HNE.out)
          generalize ((((W12.setCell ⟨g4, 0, none⟩ (.int .i64 V.1)).setCell ⟨g4, 1, none⟩ (.int .i64 V.2.1)).setCell ⟨g4, 2, none⟩ (.int .i64 V.2.2.1)).setCell ⟨g4, 3, none⟩ (.int .i64 V.2.2.2)) = W12a at hS2 HY4 HX5 ⊢
          clear hHeld
          refine hK.out _ _ hS2 (fun hHeld => ?_)
          clear hK Kq hS2
          try simp only [Tk.put]
          obtain ⟨⟨z0, z1, z2, z3⟩, z4, z5, z6, z7⟩ := HX5.out
          refine Tk.s 7 rfl (fun Kq hK => ?_)
          go_simp
          clear z0 z1 z2 z3 z4 z5 z6 z7
          have hS2 : Below W0.heap.size W0 ((((W12a.setCell ⟨g5, 0, none⟩ (.int .i64 V.1)).setCell ⟨g5, 1, none⟩ (.int .i64 V.2.1)).setCell ⟨g5, 2, none⟩ (.int .i64 V.2.2.1)).setCell ⟨g5, 3, none⟩ (.int .i64 V.2.2.2)) := (((hHeld.setCell (p := ⟨g5, 0, none⟩) HG5.out _).setCell (p := ⟨g5, 1, none⟩) HG5.out _).setCell (p := ⟨g5, 2, none⟩) HG5.out _).setCell (p := ⟨g5, 3, none⟩) HG5.out _
          have HY5 : Hid (QOk g5 V ((((W12a.setCell ⟨g5, 0, none⟩ (.int .i64 V.1)).setCell ⟨g5, 1, none⟩ (.int .i64 V.2.1)).setCell ⟨g5, 2, none⟩ (.int .i64 V.2.2.1)).setCell ⟨g5, 3, none⟩ (.int .i64 V.2.2.2))) := Lib.hid (qok_set4 HX5.out V)
          replace HY4 : Hid (QOk g4 V ((((W12a.setCell ⟨g5, 0, none⟩ (.int .i64 V.1)).setCell ⟨g5, 1, none⟩ (.int .i64 V.2.1)).setCell ⟨g5, 2, none⟩ (.int .i64 V.2.2.1)).setCell ⟨g5, 3, none⟩ (.int .i64 V.2.2.2))) := Lib.hid ((((HY4.out.other HNE2.out).other HNE2.out).other HNE2.out).other HNE2.out)
          generalize ((((W12a.setCell ⟨g5, 0, none⟩ (.int .i64 V.1)).setCell ⟨g5, 1, none⟩ (.int .i64 V.2.1)).setCell ⟨g5, 2, none⟩ (.int .i64 V.2.2.1)).setCell ⟨g5, 3, none⟩ (.int .i64 V.2.2.2)) = W12b at hS2 HY5 HY4 ⊢
          clear hHeld
          refine hK.out _ _ hS2 (fun hHeld => ?_)
          clear hK Kq hS2
          try simp only [Tk.put]
          refine wpAnyH_done (by kernel_rfl) ?_ _
          go_wp2_with fail
          go_meet
          exact ⟨_, _, rfl, rfl, Lib.hid HY4.out.1, Lib.hid HY5.out.1, Lib.hid hHeld⟩
      · skip
        go_simp
        have hS2 := hHeld.alloc hHeld.size (.cells #[.int .i64 0, .int .i64 0, .int .i64 0, .int .i64 0] 34)
        have HX5 := Lib.hid (QOk.new (0, 0, 0, 0) 34 W2)
        have HL5 : Hid (W2.heap.size < (W2.alloc (.cells #[.int .i64 0, .int .i64 0, .int .i64 0, .int .i64 0] 34)).heap.size) := Lib.hid (by simp)
        have HG5 : Hid (W0.heap.size ≤ W2.heap.size) := Lib.hid hHeld.size
        generalize hg5 : W2.heap.size = g5 at *
        generalize (W2.alloc (.cells #[.int .i64 0, .int .i64 0, .int .i64 0, .int .i64 0] 34)) = W13 at *
        clear hHeld hg5
        refine hK.out _ _ hS2 (fun hHeld => ?_)
        clear hK Kq hS2
        try simp only [Tk.put]
        refine wpAnyH_ready (rs := [3, 4]) (by kernel_rfl) (by simp) ?_
        refine Tk.c rfl (fun Kq hK => ?_) (Tk.c rfl (fun Kq hK => ?_) AllReadyH.nil)
        · skip
          go_simp
          go_at_call 7
          refine (CBR.out _ hHeld).mono ?_
          rintro e W14 ⟨rfl, hb⟩
          have hS2 := hHeld.trans (hb.mono hHeld.size)
          replace HX5 := Lib.hid (HX5.out.below HL5.out hb)
          replace HL5 := Lib.hid (Nat.lt_of_lt_of_le HL5.out hb.size)
          clear hHeld hb
          dsimp only
          refine hK.out _ _ hS2 (fun hHeld => ?_)
          clear hK Kq hS2
          try simp only [Tk.put]
          refine Tk.s 4 rfl (fun Kq hK => ?_)
          go_simp
          have hS2 := hHeld.alloc hHeld.size (.cells #[.int .i64 0, .int .i64 0, .int .i64 0, .int .i64 0] 31)
          have HX4 := Lib.hid (QOk.new (0, 0, 0, 0) 31 W14)
          have HL4 : Hid (W14.heap.size < (W14.alloc (.cells #[.int .i64 0, .int .i64 0, .int .i64 0, .int .i64 0] 31)).heap.size) := Lib.hid (by simp)
          have HG4 : Hid (W0.heap.size ≤ W14.heap.size) := Lib.hid hHeld.size
          have hal : Below W14.heap.size W14 (W14.alloc (.cells #[.int .i64 0, .int .i64 0, .int .i64 0, .int .i64 0] 31)) := (Below.refl _ _).alloc (Nat.le_refl _) _
          replace HX5 := Lib.hid (HX5.out.below HL5.out hal)
          have HD : Hid (g5 ≠ W14.heap.size) := Lib.hid (by have := HL5.out; omega)
          replace HL5 : Hid (g5 < (W14.alloc (.cells #[.int .i64 0, .int .i64 0, .int .i64 0, .int .i64 0] 31)).heap.size) := Lib.hid (Nat.lt_of_lt_of_le HL5.out hal.size)
          clear hal
          generalize hg4 : W14.heap.size = g4 at *
          generalize (W14.alloc (.cells #[.int .i64 0, .int .i64 0, .int .i64 0, .int .i64 0] 31)) = W15 at *
          clear hHeld hg4
          refine hK.out _ _ hS2 (fun hHeld => ?_)
          clear hK Kq hS2
          try simp only [Tk.put]
          obtain ⟨⟨z0, z1, z2, z3⟩, z4, z5, z6, z7⟩ := HX4.out
          have HNE : Hid (g5 ≠ g4) := Lib.hid HD.out
          have HNE2 : Hid (g4 ≠ g5) := Lib.hid (fun e => HD.out e.symm)
          refine Tk.s 6 rfl (fun Kq hK => ?_)
          go_simp
          clear z0 z1 z2 z3 z4 z5 z6 z7
          have hS2 : Below W0.heap.size W0 ((((W15.setCell ⟨g4, 0, none⟩ (.int .i64 V.1)).setCell ⟨g4, 1, none⟩ (.int .i64 V.2.1)).setCell ⟨g4, 2, none⟩ (.int .i64 V.2.2.1)).setCell ⟨g4, 3, none⟩ (.int .i64 V.2.2.2)) := (((hHeld.setCell (p := ⟨g4, 0, none⟩) HG4.out _).setCell (p := ⟨g4, 1, none⟩) HG4.out _).setCell (p := ⟨g4, 2, none⟩) HG4.out _).setCell (p := ⟨g4, 3, none⟩) HG4.out _
          have HY4 : Hid (QOk g4 V ((((W15.setCell ⟨g4, 0, none⟩ (.int .i64 V.1)).setCell ⟨g4, 1, none⟩ (.int .i64 V.2.1)).setCell ⟨g4, 2, none⟩ (.int .i64 V.2.2.1)).setCell ⟨g4, 3, none⟩ (.int .i64 V.2.2.2))) := Lib.hid (qok_set4 HX4.out V)
          replace HX5 : Hid (QOk g5 (0, 0, 0, 0) ((((W15.setCell ⟨g4, 0, none⟩ (.int .i64 V.1)).setCell ⟨g4, 1, none⟩ (.int .i64 V.2.1)).setCell ⟨g4, 2, none⟩ (.int .i64 V.2.2.1)).setCell ⟨g4, 3, none⟩ (.int .i64 V.2.2.2))) := Lib.hid ((((HX5.out.other HNE.out).other HNE.out).other HNE.out).other HNE.out)
          generalize ((((W15.setCell ⟨g4, 0, none⟩ (.int .i64 V.1)).setCell ⟨g4, 1, none⟩ (.int .i64 V.2.1)).setCell ⟨g4, 2, none⟩ (.int .i64 V.2.2.1)).setCell ⟨g4, 3, none⟩ (.int .i64 V.2.2.2)) = W15a at hS2 HY4 HX5 ⊢
          clear hHeld
          refine hK.out _ _ hS2 (fun hHeld => ?_)
          clear hK Kq hS2
          try simp only [Tk.put]
          obtain ⟨⟨z0, z1, z2, z3⟩, z4, z5, z6, z7⟩ := HX5.out
          refine Tk.s 7 rfl (fun Kq hK => ?_)
          go_simp
          clear z0 z1 z2 z3 z4 z5 z6 z7
          have hS2 : Below W0.heap.size W0 ((((W15a.setCell ⟨g5, 0, none⟩ (.int .i64 V.1)).setCell ⟨g5, 1, none⟩ (.int .i64 V.2.1)).setCell ⟨g5, 2, none⟩ (.int .i64 V.2.2.1)).setCell ⟨g5, 3, none⟩ (.int .i64 V.2.2.2)) := (((hHeld.setCell (p := ⟨g5, 0, none⟩) HG5.out _).setCell (p := ⟨g5, 1, none⟩) HG5.out _).setCell (p := ⟨g5, 2, none⟩) HG5.out _).setCell (p := ⟨g5, 3, none⟩) HG5.out _
          have HY5 : Hid (QOk g5 V ((((W15a.setCell ⟨g5, 0, none⟩ (.int .i64 V.1)).setCell ⟨g5, 1, none⟩ (.int .i64 V.2.1)).setCell ⟨g5, 2, none⟩ (.int .i64 V.2.2.1)).setCell ⟨g5, 3, none⟩ (.int .i64 V.2.2.2))) := Lib.hid (qok_set4 HX5.out V)
          replace HY4 : Hid (QOk g4 V ((((W15a.setCell ⟨g5, 0, none⟩ (.int .i64 V.1)).setCell ⟨g5, 1, none⟩ (.int .i64 V.2.1)).setCell ⟨g5, 2, none⟩ (.int .i64 V.2.2.1)).setCell ⟨g5, 3, none⟩ (.int .i64 V.2.2.2))) := Lib.hid ((((HY4.out.other HNE2.out).other HNE2.out).other HNE2.out).other HNE2.out)
          generalize ((((W15a.setCell ⟨g5, 0, none⟩ (.int .i64 V.1)).setCell ⟨g5, 1, none⟩ (.int .i64 V.2.1)).setCell ⟨g5, 2, none⟩ (.int .i64 V.2.2.1)).setCell ⟨g5, 3, none⟩ (.int .i64 V.2.2.2)) = W15b at hS2 HY5 HY4 ⊢
          clear hHeld
          refine hK.out _ _ hS2 (fun hHeld => ?_)
          clear hK Kq hS2
          try simp only [Tk.put]
          refine wpAnyH_done (by kernel_rfl) ?_ _
          go_wp2_with fail
          go_meet
          exact ⟨_, _, rfl, rfl, Lib.hid HY4.out.1, Lib.hid HY5.out.1, Lib.hid hHeld⟩
        · skip
          go_simp
          have hS2 := hHeld.alloc hHeld.size (.cells #[.int .i64 0, .int .i64 0, .int .i64 0, .int .i64 0] 31)
          have HX4 := Lib.hid (QOk.new (0, 0, 0, 0) 31 W13)
          have HL4 : Hid (W13.heap.size < (W13.alloc (.cells #[.int .i64 0, .int .i64 0, .int .i64 0, .int .i64 0] 31)).heap.size) := Lib.hid (by simp)
          have HG4 : Hid (W0.heap.size ≤ W13.heap.size) := Lib.hid hHeld.size
          have hal : Below W13.heap.size W13 (W13.alloc (.cells #[.int .i64 0, .int .i64 0, .int .i64 0, .int .i64 0] 31)) := (Below.refl _ _).alloc (Nat.le_refl _) _
          replace HX5 := Lib.hid (HX5.out.below HL5.out hal)
          have HD : Hid (g5 ≠ W13.heap.size) := Lib.hid (by have := HL5.out; omega)
          replace HL5 : Hid (g5 < (W13.alloc (.cells #[.int .i64 0, .int .i64 0, .int .i64 0, .int .i64 0] 31)).heap.size) := Lib.hid (Nat.lt_of_lt_of_le HL5.out hal.size)
          clear hal
          generalize hg4 : W13.heap.size = g4 at *
          generalize (W13.alloc (.cells #[.int .i64 0, .int .i64 0, .int .i64 0, .int .i64 0] 31)) = W16 at *
          clear hHeld hg4
          refine hK.out _ _ hS2 (fun hHeld => ?_)
          clear hK Kq hS2
          try simp only [Tk.put]
          refine Tk.s 3 rfl (fun Kq hK => ?_)
          go_simp
          go_at_call 7
          refine (CBR.out _ hHeld).mono ?_
          rintro e W17 ⟨rfl, hb⟩
          have hS2 := hHeld.trans (hb.mono hHeld.size)
          replace HX5 := Lib.hid (HX5.out.below HL5.out hb)
          replace HL5 := Lib.hid (Nat.lt_of_lt_of_le HL5.out hb.size)
          replace HX4 := Lib.hid (HX4.out.below HL4.out hb)
          replace HL4 := Lib.hid (Nat.lt_of_lt_of_le HL4.out hb.size)
          clear hHeld hb
          dsimp only
          refine hK.out _ _ hS2 (fun hHeld => ?_)
          clear hK Kq hS2
          try simp only [Tk.put]
          obtain ⟨⟨z0, z1, z2, z3⟩, z4, z5, z6, z7⟩ := HX4.out
          have HNE : Hid (g5 ≠ g4) := Lib.hid HD.out
          have HNE2 : Hid (g4 ≠ g5) := Lib.hid (fun e => HD.out e.symm)
          refine Tk.s 6 rfl (fun Kq hK => ?_)
          go_simp
          clear z0 z1 z2 z3 z4 z5 z6 z7
          have hS2 : Below W0.heap.size W0 ((((W17.setCell ⟨g4, 0, none⟩ (.int .i64 V.1)).setCell ⟨g4, 1, none⟩ (.int .i64 V.2.1)).setCell ⟨g4, 2, none⟩ (.int .i64 V.2.2.1)).setCell ⟨g4, 3, none⟩ (.int .i64 V.2.2.2)) := (((hHeld.setCell (p := ⟨g4, 0, none⟩) HG4.out _).setCell (p := ⟨g4, 1, none⟩) HG4.out _).setCell (p := ⟨g4, 2, none⟩) HG4.out _).setCell (p := ⟨g4, 3, none⟩) HG4.out _
          have HY4 : Hid (QOk g4 V ((((W17.setCell ⟨g4, 0, none⟩ (.int .i64 V.1)).setCell ⟨g4, 1, none⟩ (.int .i64 V.2.1)).setCell ⟨g4, 2, none⟩ (.int .i64 V.2.2.1)).setCell ⟨g4, 3, none⟩ (.int .i64 V.2.2.2))) := Lib.hid (qok_set4 HX4.out V)
          replace HX5 : Hid (QOk g5 (0, 0, 0, 0) ((((W17.setCell ⟨g4, 0, none⟩ (.int .i64 V.1)).setCell ⟨g4, 1, none⟩ (.int .i64 V.2.1)).setCell ⟨g4, 2, none⟩ (.int .i64 V.2.2.1)).setCell ⟨g4, 3, none⟩ (.int .i64 V.2.2.2))) := Lib.hid ((((HX5.out.other HNE.out).other HNE.out).other HNE.out).other HNE.out)
          generalize ((((W17.setCell ⟨g4, 0, none⟩ (.int .i64 V.1)).setCell ⟨g4, 1, none⟩ (.int .i64 V.2.1)).setCell ⟨g4, 2, none⟩ (.int .i64 V.2.2.1)).setCell ⟨g4, 3, none⟩ (.int .i64 V.2.2.2)) = W17a at hS2 HY4 HX5 ⊢
          clear hHeld
          refine hK.out _ _ hS2 (fun hHeld => ?_)
          clear hK Kq hS2
          try simp only [Tk.put]
          obtain ⟨⟨z0, z1, z2, z3⟩, z4, z5, z6, z7⟩ := HX5.out
          refine Tk.s 7 rfl (fun Kq hK => ?_)
          go_simp
          clear z0 z1 z2 z3 z4 z5 z6 z7
          have hS2 : Below W0.heap.size W0 ((((W17a.setCell ⟨g5, 0, none⟩ (.int .i64 V.1)).setCell ⟨g5, 1, none⟩ (.int .i64 V.2.1)).setCell ⟨g5, 2, none⟩ (.int .i64 V.2.2.1)).setCell ⟨g5, 3, none⟩ (.int .i64 V.2.2.2)) := (((hHeld.setCell (p := ⟨g5, 0, none⟩) HG5.out _).setCell (p := ⟨g5, 1, none⟩) HG5.out _).setCell (p := ⟨g5, 2, none⟩) HG5.out _).setCell (p := ⟨g5, 3, none⟩) HG5.out _
          have HY5 : Hid (QOk g5 V ((((W17a.setCell ⟨g5, 0, none⟩ (.int .i64 V.1)).setCell ⟨g5, 1, none⟩ (.int .i64 V.2.1)).setCell ⟨g5, 2, none⟩ (.int .i64 V.2.2.1)).setCell ⟨g5, 3, none⟩ (.int .i64 V.2.2.2))) := Lib.hid (qok_set4 HX5.out V)
          replace HY4 : Hid (QOk g4 V ((((W17a.setCell ⟨g5, 0, none⟩ (.int .i64 V.1)).setCell ⟨g5, 1, none⟩ (.int .i64 V.2.1)).setCell ⟨g5, 2, none⟩ (.int .i64 V.2.2.1)).setCell ⟨g5, 3, none⟩ (.int .i64 V.2.2.2))) := Lib.hid ((((HY4.out.other HNE2.out).other HNE2.out).other HNE2.out).other HNE2.out)
          generalize ((((W17a.setCell ⟨g5, 0, none⟩ (.int .i64 V.1)).setCell ⟨g5, 1, none⟩ (.int .i64 V.2.1)).setCell ⟨g5, 2, none⟩ (.int .i64 V.2.2.1)).setCell ⟨g5, 3, none⟩ (.int .i64 V.2.2.2)) = W17b at hS2 HY5 HY4 ⊢
          clear hHeld
          refine hK.out _ _ hS2 (fun hHeld => ?_)
          clear hK Kq hS2
          try simp only [Tk.put]
          refine wpAnyH_done (by kernel_rfl) ?_ _
          go_wp2_with fail
          go_meet
          exact ⟨_, _, rfl, rfl, Lib.hid HY4.out.1, Lib.hid HY5.out.1, Lib.hid hHeld⟩
    · skip
      go_simp
      have hS2 := hHeld.alloc hHeld.size (.cells #[.int .i64 0, .int .i64 0, .int .i64 0, .int .i64 0] 31)
      have HX4 := Lib.hid (QOk.new (0, 0, 0, 0) 31 W1)
      have HL4 : Hid (W1.heap.size < (W1.alloc (.cells #[.int .i64 0, .int .i64 0, .int .i64 0, .int .i64 0] 31)).heap.size) := Lib.hid (by simp)
      have HG4 : Hid (W0.heap.size ≤ W1.heap.size) := Lib.hid hHeld.size
      generalize hg4 : W1.heap.size = g4 at *
      generalize (W1.alloc (.cells #[.int .i64 0, .int .i64 0, .int .i64 0, .int .i64 0] 31)) = W18 at *
      clear hHeld hg4
      refine hK.out _ _ hS2 (fun hHeld => ?_)
      clear hK Kq hS2
      try simp only [Tk.put]
      refine wpAnyH_ready (rs := [1, 5]) (by kernel_rfl) (by simp) ?_
      refine Tk.c rfl (fun Kq hK => ?_) (Tk.c rfl (fun Kq hK => ?_) AllReadyH.nil)
      · skip
        go_simp
        go_at_call 6
        refine (CBC.out _ hHeld).mono ?_
        rintro e W19 ⟨rfl, hb⟩
        have hS2 := hHeld.trans (hb.mono hHeld.size)
        replace HX4 := Lib.hid (HX4.out.below HL4.out hb)
        replace HL4 := Lib.hid (Nat.lt_of_lt_of_le HL4.out hb.size)
        clear hHeld hb
        dsimp only
        refine hK.out _ _ hS2 (fun hHeld => ?_)
        clear hK Kq hS2
        try simp only [Tk.put]
        refine wpAnyH_ready (rs := [3, 5]) (by kernel_rfl) (by simp) ?_
        refine Tk.c rfl (fun Kq hK => ?_) (Tk.c rfl (fun Kq hK => ?_) AllReadyH.nil)
        · skip
          go_simp
          go_at_call 7
          refine (CBR.out _ hHeld).mono ?_
          rintro e W20 ⟨rfl, hb⟩
          have hS2 := hHeld.trans (hb.mono hHeld.size)
          replace HX4 := Lib.hid (HX4.out.below HL4.out hb)
          replace HL4 := Lib.hid (Nat.lt_of_lt_of_le HL4.out hb.size)
          clear hHeld hb
          dsimp only
          refine hK.out _ _ hS2 (fun hHeld => ?_)
          clear hK Kq hS2
          try simp only [Tk.put]
          refine Tk.s 5 rfl (fun Kq hK => ?_)
          go_simp
          have hS2 := hHeld.alloc hHeld.size (.cells #[.int .i64 0, .int .i64 0, .int .i64 0, .int .i64 0] 34)
          have HX5 := Lib.hid (QOk.new (0, 0, 0, 0) 34 W20)
          have HL5 : Hid (W20.heap.size < (W20.alloc (.cells #[.int .i64 0, .int .i64 0, .int .i64 0, .int .i64 0] 34)).heap.size) := Lib.hid (by simp)
          have HG5 : Hid (W0.heap.size ≤ W20.heap.size) := Lib.hid hHeld.size
          have hal : Below W20.heap.size W20 (W20.alloc (.cells #[.int .i64 0, .int .i64 0, .int .i64 0, .int .i64 0] 34)) := (Below.refl _ _).alloc (Nat.le_refl _) _
          replace HX4 := Lib.hid (HX4.out.below HL4.out hal)
          have HD : Hid (W20.heap.size ≠ g4) := Lib.hid (by have := HL4.out; omega)
          replace HL4 : Hid (g4 < (W20.alloc (.cells #[.int .i64 0, .int .i64 0, .int .i64 0, .int .i64 0] 34)).heap.size) := Lib.hid (Nat.lt_of_lt_of_le HL4.out hal.size)
          clear hal
          generalize hg5 : W20.heap.size = g5 at *
          generalize (W20.alloc (.cells #[.int .i64 0, .int .i64 0, .int .i64 0, .int .i64 0] 34)) = W21 at *
          clear hHeld hg5
          refine hK.out _ _ hS2 (fun hHeld => ?_)
          clear hK Kq hS2
          try simp only [Tk.put]
          obtain ⟨⟨z0, z1, z2, z3⟩, z4, z5, z6, z7⟩ := HX4.out
          have HNE : Hid (g5 ≠ g4) := Lib.hid HD.out
          have HNE2 : Hid (g4 ≠ g5) := Lib.hid (fun e => HD.out e.symm)
          refine Tk.s 6 rfl (fun Kq hK => ?_)
          go_simp
          clear z0 z1 z2 z3 z4 z5 z6 z7
          have hS2 : Below W0.heap.size W0 ((((W21.setCell ⟨g4, 0, none⟩ (.int .i64 V.1)).setCell ⟨g4, 1, none⟩ (.int .i64 V.2.1)).setCell ⟨g4, 2, none⟩ (.int .i64 V.2.2.1)).setCell ⟨g4, 3, none⟩ (.int .i64 V.2.2.2)) := (((hHeld.setCell (p := ⟨g4, 0, none⟩) HG4.out _).setCell (p := ⟨g4, 1, none⟩) HG4.out _).setCell (p := ⟨g4, 2, none⟩) HG4.out _).setCell (p := ⟨g4, 3, none⟩) HG4.out _
          have HY4 : Hid (QOk g4 V ((((W21.setCell ⟨g4, 0, none⟩ (.int .i64 V.1)).setCell ⟨g4, 1, none⟩ (.int .i64 V.2.1)).setCell ⟨g4, 2, none⟩ (.int .i64 V.2.2.1)).setCell ⟨g4, 3, none⟩ (.int .i64 V.2.2.2))) := Lib.hid (qok_set4 HX4.out V)
          replace HX5 : Hid (QOk g5 (0, 0, 0, 0) ((((W21.setCell ⟨g4, 0, none⟩ (.int .i64 V.1)).setCell ⟨g4, 1, none⟩ (.int .i64 V.2.1)).setCell ⟨g4, 2, none⟩ (.int .i64 V.2.2.1)).setCell ⟨g4, 3, none⟩ (.int .i64 V.2.2.2))) := Lib.hid ((((HX5.out.other HNE.out).other HNE.out).other HNE.out).other HNE.out)
          generalize ((((W21.setCell ⟨g4, 0, none⟩ (.int .i64 V.1)).setCell ⟨g4, 1, none⟩ (.int .i64 V.2.1)).setCell ⟨g4, 2, none⟩ (.int .i64 V.2.2.1)).setCell ⟨g4, 3, none⟩ (.int .i64 V.2.2.2)) = W21a at hS2 HY4 HX5 ⊢
          clear hHeld
          refine hK.out _ _ hS2 (fun hHeld => ?_)
          clear hK Kq hS2
          try simp only [Tk.put]
          obtain ⟨⟨z0, z1, z2, z3⟩, z4, z5, z6, z7⟩ := HX5.out
          refine Tk.s 7 rfl (fun Kq hK => ?_)
          go_simp
          clear z0 z1 z2 z3 z4 z5 z6 z7
          have hS2 : Below W0.heap.size W0 ((((W21a.setCell ⟨g5, 0, none⟩ (.int .i64 V.1)).setCell ⟨g5, 1, none⟩ (.int .i64 V.2.1)).setCell ⟨g5, 2, none⟩ (.int .i64 V.2.2.1)).setCell ⟨g5, 3, none⟩ (.int .i64 V.2.2.2)) := (((hHeld.setCell (p := ⟨g5, 0, none⟩) HG5.out _).setCell (p := ⟨g5, 1, none⟩) HG5.out _).setCell (p := ⟨g5, 2, none⟩) HG5.out _).setCell (p := ⟨g5, 3, none⟩) HG5.out _
          have HY5 : Hid (QOk g5 V ((((W21a.setCell ⟨g5, 0, none⟩ (.int .i64 V.1)).setCell ⟨g5, 1, none⟩ (.int .i64 V.2.1)).setCell ⟨g5, 2, none⟩ (.int .i64 V.2.2.1)).setCell ⟨g5, 3, none⟩ (.int .i64 V.2.2.2))) := Lib.hid (qok_set4 HX5.out V)
          replace HY4 : Hid (QOk g4 V ((((W21a.setCell ⟨g5, 0, none⟩ (.int .i64 V.1)).setCell ⟨g5, 1, none⟩ (.int .i64 V.2.1)).setCell ⟨g5, 2, none⟩ (.int .i64 V.2.2.1)).setCell ⟨g5, 3, none⟩ (.int .i64 V.2.2.2))) := Lib.hid ((((HY4.out.other HNE2.out).other HNE2.out).other HNE2.out).other HNE2.out)
          generalize ((((W21a.setCell ⟨g5, 0, none⟩ (.int .i64 V.1)).setCell ⟨g5, 1, none⟩ (.int .i64 V.2.1)).setCell ⟨g5, 2, none⟩ (.int .i64 V.2.2.1)).setCell ⟨g5, 3, none⟩ (.int .i64 V.2.2.2)) = W21b at hS2 HY5 HY4 ⊢
          clear hHeld
          refine hK.out _ _ hS2 (fun hHeld => ?_)
          clear hK Kq hS2
          try simp only [Tk.put]
          refine wpAnyH_done (by kernel_rfl) ?_ _
          go_wp2_with fail
          go_meet
          exact ⟨_, _, rfl, rfl, Lib.hid HY4.out.1, Lib.hid HY5.out.1, Lib.hid hHeld⟩
        · skip
          go_simp
          have hS2 := hHeld.alloc hHeld.size (.cells #[.int .i64 0, .int .i64 0, .int .i64 0, .int .i64 0] 34)
          have HX5 := Lib.hid (QOk.new (0, 0, 0, 0) 34 W19)
          have HL5 : Hid (W19.heap.size < (W19.alloc (.cells #[.int .i64 0, .int .i64 0, .int .i64 0, .int .i64 0] 34)).heap.size) := Lib.hid (by simp)
          have HG5 : Hid (W0.heap.size ≤ W19.heap.size) := Lib.hid hHeld.size
          have hal : Below W19.heap.size W19 (W19.alloc (.cells #[.int .i64 0, .int .i64 0, .int .i64 0, .int .i64 0] 34)) := (Below.refl _ _).alloc (Nat.le_refl _) _
          replace HX4 := Lib.hid (HX4.out.below HL4.out hal)
          have HD : Hid (W19.heap.size ≠ g4) := Lib.hid (by have := HL4.out; omega)
          replace HL4 : Hid (g4 < (W19.alloc (.cells #[.int .i64 0, .int .i64 0, .int .i64 0, .int .i64 0] 34)).heap.size) := Lib.hid (Nat.lt_of_lt_of_le HL4.out hal.size)
          clear hal
          generalize hg5 : W19.heap.size = g5 at *
          generalize (W19.alloc (.cells #[.int .i64 0, .int .i64 0, .int .i64 0, .int .i64 0] 34)) = W22 at *
          clear hHeld hg5
          refine hK.out _ _ hS2 (fun hHeld => ?_)
          clear hK Kq hS2
          try simp only [Tk.put]
          refine Tk.s 3 rfl (fun Kq hK => ?_)
          go_simp
          go_at_call 7
          refine (CBR.out _ hHeld).mono ?_
          rintro e W23 ⟨rfl, hb⟩
          have hS2 := hHeld.trans (hb.mono hHeld.size)
          replace HX4 := Lib.hid (HX4.out.below HL4.out hb)
          replace HL4 := Lib.hid (Nat.lt_of_lt_of_le HL4.out hb.size)
          replace HX5 := Lib.hid (HX5.out.below HL5.out hb)
          replace HL5 := Lib.hid (Nat.lt_of_lt_of_le HL5.out hb.size)
          clear hHeld hb
          dsimp only
          refine hK.out _ _ hS2 (fun hHeld => ?_)
          clear hK Kq hS2
          try simp only [Tk.put]
          obtain ⟨⟨z0, z1, z2, z3⟩, z4, z5, z6, z7⟩ := HX4.out
          have HNE : Hid (g5 ≠ g4) := Lib.hid HD.out
          have HNE2 : Hid (g4 ≠ g5) := Lib.hid (fun e => HD.out e.symm)
          refine Tk.s 6 rfl (fun Kq hK => ?_)
          go_simp
          clear z0 z1 z2 z3 z4 z5 z6 z7
          have hS2 : Below W0.heap.size W0 ((((W23.setCell ⟨g4, 0, none⟩ (.int .i64 V.1)).setCell ⟨g4, 1, none⟩ (.int .i64 V.2.1)).setCell ⟨g4, 2, none⟩ (.int .i64 V.2.2.1)).setCell ⟨g4, 3, none⟩ (.int .i64 V.2.2.2)) := (((hHeld.setCell (p := ⟨g4, 0, none⟩) HG4.out _).setCell (p := ⟨g4, 1, none⟩) HG4.out _).setCell (p := ⟨g4, 2, none⟩) HG4.out _).setCell (p := ⟨g4, 3, none⟩) HG4.out _
          have HY4 : Hid (QOk g4 V ((((W23.setCell ⟨g4, 0, none⟩ (.int .i64 V.1)).setCell ⟨g4, 1, none⟩ (.int .i64 V.2.1)).setCell ⟨g4, 2, none⟩ (.int .i64 V.2.2.1)).setCell ⟨g4, 3, none⟩ (.int .i64 V.2.2.2))) := Lib.hid (qok_set4 HX4.out V)
          replace HX5 : Hid (QOk g5 (0, 0, 0, 0) ((((W23.setCell ⟨g4, 0, none⟩ (.int .i64 V.1)).setCell ⟨g4, 1, none⟩ (.int .i64 V.2.1)).setCell ⟨g4, 2, none⟩ (.int .i64 V.2.2.1)).setCell ⟨g4, 3, none⟩ (.int .i64 V.2.2.2))) := Lib.hid ((((HX5.out.other HNE.out).other HNE.out).other HNE.out).other HNE.out)
          generalize ((((W23.setCell ⟨g4, 0, none⟩ (.int .i64 V.1)).setCell ⟨g4, 1, none⟩ (.int .i64 V.2.1)).setCell ⟨g4, 2, none⟩ (.int .i64 V.2.2.1)).setCell ⟨g4, 3, none⟩ (.int .i64 V.2.2.2)) = W23a at hS2 HY4 HX5 ⊢
          clear hHeld
          refine hK.out _ _ hS2 (fun hHeld => ?_)
          clear hK Kq hS2
          try simp only [Tk.put]
          obtain ⟨⟨z0, z1, z2, z3⟩, z4, z5, z6, z7⟩ := HX5.out
          refine Tk.s 7 rfl (fun Kq hK => ?_)
          go_simp
          clear z0 z1 z2 z3 z4 z5 z6 z7
          have hS2 : Below W0.heap.size W0 ((((W23a.setCell ⟨g5, 0, none⟩ (.int .i64 V.1)).setCell ⟨g5, 1, none⟩ (.int .i64 V.2.1)).setCell ⟨g5, 2, none⟩ (.int .i64 V.2.2.1)).setCell ⟨g5, 3, none⟩ (.int .i64 V.2.2.2)) := (((hHeld.setCell (p := ⟨g5, 0, none⟩) HG5.out _).setCell (p := ⟨g5, 1, none⟩) HG5.out _).setCell (p := ⟨g5, 2, none⟩) HG5.out _).setCell (p := ⟨g5, 3, none⟩) HG5.out _
          have HY5 : Hid (QOk g5 V ((((W23a.setCell ⟨g5, 0, none⟩ (.int .i64 V.1)).setCell ⟨g5, 1, none⟩ (.int .i64 V.2.1)).setCell ⟨g5, 2, none⟩ (.int .i64 V.2.2.1)).setCell ⟨g5, 3, none⟩ (.int .i64 V.2.2.2))) := Lib.hid (qok_set4 HX5.out V)
          replace HY4 : Hid (QOk g4 V ((((W23a.setCell ⟨g5, 0, none⟩ (.int .i64 V.1)).setCell ⟨g5, 1, none⟩ (.int .i64 V.2.1)).setCell ⟨g5, 2, none⟩ (.int .i64 V.2.2.1)).setCell ⟨g5, 3, none⟩ (.int .i64 V.2.2.2))) := Lib.hid ((((HY4.out.other HNE2.out).other HNE2.out).other HNE2.out).other HNE2.out)
          generalize ((((W23a.setCell ⟨g5, 0, none⟩ (.int .i64 V.1)).setCell ⟨g5, 1, none⟩ (.int .i64 V.2.1)).setCell ⟨g5, 2, none⟩ (.int .i64 V.2.2.1)).setCell ⟨g5, 3, none⟩ (.int .i64 V.2.2.2)) = W23b at hS2 HY5 HY4 ⊢
          clear hHeld
          refine hK.out _ _ hS2 (fun hHeld => ?_)
          clear hK Kq hS2
          try simp only [Tk.put]
          refine wpAnyH_done (by kernel_rfl) ?_ _
          go_wp2_with fail
          go_meet
          exact ⟨_, _, rfl, rfl, Lib.hid HY4.out.1, Lib.hid HY5.out.1, Lib.hid hHeld⟩
      · skip
        go_simp
        have hS2 := hHeld.alloc hHeld.size (.cells #[.int .i64 0, .int .i64 0, .int .i64 0, .int .i64 0] 34)
        have HX5 := Lib.hid (QOk.new (0, 0, 0, 0) 34 W18)
        have HL5 : Hid (W18.heap.size < (W18.alloc (.cells #[.int .i64 0, .int .i64 0, .int .i64 0, .int .i64 0] 34)).heap.size) := Lib.hid (by simp)
        have HG5 : Hid (W0.heap.size ≤ W18.heap.size) := Lib.hid hHeld.size
        have hal : Below W18.heap.size W18 (W18.alloc (.cells #[.int .i64 0, .int .i64 0, .int .i64 0, .int .i64 0] 34)) := (Below.refl _ _).alloc (Nat.le_refl _) _
        replace HX4 := Lib.hid (HX4.out.below HL4.out hal)
        have HD : Hid (W18.heap.size ≠ g4) := Lib.hid (by have := HL4.out; omega)
        replace HL4 : Hid (g4 < (W18.alloc (.cells #[.int .i64 0, .int .i64 0, .int .i64 0, .int .i64 0] 34)).heap.size) := Lib.hid (Nat.lt_of_lt_of_le HL4.out hal.size)
        clear hal
        generalize hg5 : W18.heap.size = g5 at *
        generalize (W18.alloc (.cells #[.int .i64 0, .int .i64 0, .int .i64 0, .int .i64 0] 34)) = W24 at *
        clear hHeld hg5
        refine hK.out _ _ hS2 (fun hHeld => ?_)
        clear hK Kq hS2
        try simp only [Tk.put]
        refine Tk.s 1 rfl (fun Kq hK => ?_)
        go_simp
        go_at_call 6
        refine (CBC.out _ hHeld).mono ?_
        rintro e W25 ⟨rfl, hb⟩
        have hS2 := hHeld.trans (hb.mono hHeld.size)
        replace HX4 := Lib.hid (HX4.out.below HL4.out hb)
        replace HL4 := Lib.hid (Nat.lt_of_lt_of_le HL4.out hb.size)
        replace HX5 := Lib.hid (HX5.out.below HL5.out hb)
        replace HL5 := Lib.hid (Nat.lt_of_lt_of_le HL5.out hb.size)
        clear hHeld hb
        dsimp only
        refine hK.out _ _ hS2 (fun hHeld => ?_)
        clear hK Kq hS2
        try simp only [Tk.put]
        refine Tk.s 3 rfl (fun Kq hK => ?_)
        go_simp
        go_at_call 7
        refine (CBR.out _ hHeld).mono ?_
        rintro e W26 ⟨rfl, hb⟩
        have hS2 := hHeld.trans (hb.mono hHeld.size)
        replace HX4 := Lib.hid (HX4.out.below HL4.out hb)
        replace HL4 := Lib.hid (Nat.lt_of_lt_of_le HL4.out hb.size)
        replace HX5 := Lib.hid (HX5.out.below HL5.out hb)
        replace HL5 := Lib.hid (Nat.lt_of_lt_of_le HL5.out hb.size)
        clear hHeld hb
        dsimp only
        refine hK.out _ _ hS2 (fun hHeld => ?_)
        clear hK Kq hS2
        try simp only [Tk.put]
        obtain ⟨⟨z0, z1, z2, z3⟩, z4, z5, z6, z7⟩ := HX4.out
        have HNE : Hid (g5 ≠ g4) := Lib.hid HD.out
        have HNE2 : Hid (g4 ≠ g5) := Lib.hid (fun e => HD.out e.symm)
        refine Tk.s 6 rfl (fun Kq hK => ?_)
        go_simp
        clear z0 z1 z2 z3 z4 z5 z6 z7
        have hS2 : Below W0.heap.size W0 ((((W26.setCell ⟨g4, 0, none⟩ (.int .i64 V.1)).setCell ⟨g4, 1, none⟩ (.int .i64 V.2.1)).setCell ⟨g4, 2, none⟩ (.int .i64 V.2.2.1)).setCell ⟨g4, 3, none⟩ (.int .i64 V.2.2.2)) := (((hHeld.setCell (p := ⟨g4, 0, none⟩) HG4.out _).setCell (p := ⟨g4, 1, none⟩) HG4.out _).setCell (p := ⟨g4, 2, none⟩) HG4.out _).setCell (p := ⟨g4, 3, none⟩) HG4.out _
        have HY4 : Hid (QOk g4 V ((((W26.setCell ⟨g4, 0, none⟩ (.int .i64 V.1)).setCell ⟨g4, 1, none⟩ (.int .i64 V.2.1)).setCell ⟨g4, 2, none⟩ (.int .i64 V.2.2.1)).setCell ⟨g4, 3, none⟩ (.int .i64 V.2.2.2))) := Lib.hid (qok_set4 HX4.out V)
        replace HX5 : Hid (QOk g5 (0, 0, 0, 0) ((((W26.setCell ⟨g4, 0, none⟩ (.int .i64 V.1)).setCell ⟨g4, 1, none⟩ (.int .i64 V.2.1)).setCell ⟨g4, 2, none⟩ (.int .i64 V.2.2.1)).setCell ⟨g4, 3, none⟩ (.int .i64 V.2.2.2))) := Lib.hid ((((HX5.out.other HNE.out).other HNE.out).other HNE.out).other HNE.out)
        generalize ((((W26.setCell ⟨g4, 0, none⟩ (.int .i64 V.1)).setCell ⟨g4, 1, none⟩ (.int .i64 V.2.1)).setCell ⟨g4, 2, none⟩ (.int .i64 V.2.2.1)).setCell ⟨g4, 3, none⟩ (.int .i64 V.2.2.2)) = W26a at hS2 HY4 HX5 ⊢
        clear hHeld
        refine hK.out _ _ hS2 (fun hHeld => ?_)
        clear hK Kq hS2
        try simp only [Tk.put]
        obtain ⟨⟨z0, z1, z2, z3⟩, z4, z5, z6, z7⟩ := HX5.out
        refine Tk.s 7 rfl (fun Kq hK => ?_)
        go_simp
        clear z0 z1 z2 z3 z4 z5 z6 z7
        have hS2 : Below W0.heap.size W0 ((((W26a.setCell ⟨g5, 0, none⟩ (.int .i64 V.1)).setCell ⟨g5, 1, none⟩ (.int .i64 V.2.1)).setCell ⟨g5, 2, none⟩ (.int .i64 V.2.2.1)).setCell ⟨g5, 3, none⟩ (.int .i64 V.2.2.2)) := (((hHeld.setCell (p := ⟨g5, 0, none⟩) HG5.out _).setCell (p := ⟨g5, 1, none⟩) HG5.out _).setCell (p := ⟨g5, 2, none⟩) HG5.out _).setCell (p := ⟨g5, 3, none⟩) HG5.out _
        have HY5 : Hid (QOk g5 V ((((W26a.setCell ⟨g5, 0, none⟩ (.int .i64 V.1)).setCell ⟨g5, 1, none⟩ (.int .i64 V.2.1)).setCell ⟨g5, 2, none⟩ (.int .i64 V.2.2.1)).setCell ⟨g5, 3, none⟩ (.int .i64 V.2.2.2))) := Lib.hid (qok_set4 HX5.out V)
        replace HY4 : Hid (QOk g4 V ((((W26a.setCell ⟨g5, 0, none⟩ (.int .i64 V.1)).setCell ⟨g5, 1, none⟩ (.int .i64 V.2.1)).setCell ⟨g5, 2, none⟩ (.int .i64 V.2.2.1)).setCell ⟨g5, 3, none⟩ (.int .i64 V.2.2.2))) := Lib.hid ((((HY4.out.other HNE2.out).other HNE2.out).other HNE2.out).other HNE2.out)
        generalize ((((W26a.setCell ⟨g5, 0, none⟩ (.int .i64 V.1)).setCell ⟨g5, 1, none⟩ (.int .i64 V.2.1)).setCell ⟨g5, 2, none⟩ (.int .i64 V.2.2.1)).setCell ⟨g5, 3, none⟩ (.int .i64 V.2.2.2)) = W26b at hS2 HY5 HY4 ⊢
        clear hHeld
        refine hK.out _ _ hS2 (fun hHeld => ?_)
        clear hK Kq hS2
        try simp only [Tk.put]
        refine wpAnyH_done (by kernel_rfl) ?_ _
        go_wp2_with fail
        go_meet
        exact ⟨_, _, rfl, rfl, Lib.hid HY4.out.1, Lib.hid HY5.out.1, Lib.hid hHeld⟩
    · skip
      go_simp
      have hS2 := hHeld.alloc hHeld.size (.cells #[.int .i64 0, .int .i64 0, .int .i64 0, .int .i64 0] 34)
      have HX5 := Lib.hid (QOk.new (0, 0, 0, 0) 34 W1)
      have HL5 : Hid (W1.heap.size < (W1.alloc (.cells #[.int .i64 0, .int .i64 0, .int .i64 0, .int .i64 0] 34)).heap.size) := Lib.hid (by simp)
      have HG5 : Hid (W0.heap.size ≤ W1.heap.size) := Lib.hid hHeld.size
      generalize hg5 : W1.heap.size = g5 at *
      generalize (W1.alloc (.cells #[.int .i64 0, .int .i64 0, .int .i64 0, .int .i64 0] 34)) = W27 at *
      clear hHeld hg5
      refine hK.out _ _ hS2 (fun hHeld => ?_)
      clear hK Kq hS2
      try simp only [Tk.put]
      refine wpAnyH_ready (rs := [1, 4]) (by kernel_rfl) (by simp) ?_
      refine Tk.c rfl (fun Kq hK => ?_) (Tk.c rfl (fun Kq hK => ?_) AllReadyH.nil)
      · skip
        go_simp
        go_at_call 6
        refine (CBC.out _ hHeld).mono ?_
        rintro e W28 ⟨rfl, hb⟩
        have hS2 := hHeld.trans (hb.mono hHeld.size)
        replace HX5 := Lib.hid (HX5.out.below HL5.out hb)
        replace HL5 := Lib.hid (Nat.lt_of_lt_of_le HL5.out hb.size)
        clear hHeld hb
        dsimp only
        refine hK.out _ _ hS2 (fun hHeld => ?_)
        clear hK Kq hS2
        try simp only [Tk.put]
        refine wpAnyH_ready (rs := [3, 4]) (by kernel_rfl) (by simp) ?_
        refine Tk.c rfl (fun Kq hK => ?_) (Tk.c rfl (fun Kq hK => ?_) AllReadyH.nil)
        · skip
          go_simp
          go_at_call 7
          refine (CBR.out _ hHeld).mono ?_
          rintro e W29 ⟨rfl, hb⟩
          have hS2 := hHeld.trans (hb.mono hHeld.size)
          replace HX5 := Lib.hid (HX5.out.below HL5.out hb)
          replace HL5 := Lib.hid (Nat.lt_of_lt_of_le HL5.out hb.size)
          clear hHeld hb
          dsimp only
          refine hK.out _ _ hS2 (fun hHeld => ?_)
          clear hK Kq hS2
          try simp only [Tk.put]
          refine Tk.s 4 rfl (fun Kq hK => ?_)
          go_simp
          have hS2 := hHeld.alloc hHeld.size (.cells #[.int .i64 0, .int .i64 0, .int .i64 0, .int .i64 0] 31)
          have HX4 := Lib.hid (QOk.new (0, 0, 0, 0) 31 W29)
          have HL4 : Hid (W29.heap.size < (W29.alloc (.cells #[.int .i64 0, .int .i64 0, .int .i64 0, .int .i64 0] 31)).heap.size) := Lib.hid (by simp)
          have HG4 : Hid (W0.heap.size ≤ W29.heap.size) := Lib.hid hHeld.size
          have hal : Below W29.heap.size W29 (W29.alloc (.cells #[.int .i64 0, .int .i64 0, .int .i64 0, .int .i64 0] 31)) := (Below.refl _ _).alloc (Nat.le_refl _) _
          replace HX5 := Lib.hid (HX5.out.below HL5.out hal)
          have HD : Hid (g5 ≠ W29.heap.size) := Lib.hid (by have := HL5.out; omega)
          replace HL5 : Hid (g5 < (W29.alloc (.cells #[.int .i64 0, .int .i64 0, .int .i64 0, .int .i64 0] 31)).heap.size) := Lib.hid (Nat.lt_of_lt_of_le HL5.out hal.size)
          clear hal
          generalize hg4 : W29.heap.size = g4 at *
          generalize (W29.alloc (.cells #[.int .i64 0, .int .i64 0, .int .i64 0, .int .i64 0] 31)) = W30 at *
          clear hHeld hg4
          refine hK.out _ _ hS2 (fun hHeld => ?_)
          clear hK Kq hS2
          try simp only [Tk.put]
          obtain ⟨⟨z0, z1, z2, z3⟩, z4, z5, z6, z7⟩ := HX4.out
          have HNE : Hid (g5 ≠ g4) := Lib.hid HD.out
          have HNE2 : Hid (g4 ≠ g5) := Lib.hid (fun e => HD.out e.symm)
          refine Tk.s 6 rfl (fun Kq hK => ?_)
          go_simp
          clear z0 z1 z2 z3 z4 z5 z6 z7
          have hS2 : Below W0.heap.size W0 ((((W30.setCell ⟨g4, 0, none⟩ (.int .i64 V.1)).setCell ⟨g4, 1, none⟩ (.int .i64 V.2.1)).setCell ⟨g4, 2, none⟩ (.int .i64 V.2.2.1)).setCell ⟨g4, 3, none⟩ (.int .i64 V.2.2.2)) := (((hHeld.setCell (p := ⟨g4, 0, none⟩) HG4.out _).setCell (p := ⟨g4, 1, none⟩) HG4.out _).setCell (p := ⟨g4, 2, none⟩) HG4.out _).setCell (p := ⟨g4, 3, none⟩) HG4.out _
          have HY4 : Hid (QOk g4 V ((((W30.setCell ⟨g4, 0, none⟩ (.int .i64 V.1)).setCell ⟨g4, 1, none⟩ (.int .i64 V.2.1)).setCell ⟨g4, 2, none⟩ (.int .i64 V.2.2.1)).setCell ⟨g4, 3, none⟩ (.int .i64 V.2.2.2))) := Lib.hid (qok_set4 HX4.out V)
          replace HX5 : Hid (QOk g5 (0, 0, 0, 0) ((((W30.setCell ⟨g4, 0, none⟩ (.int .i64 V.1)).setCell ⟨g4, 1, none⟩ (.int .i64 V.2.1)).setCell ⟨g4, 2, none⟩ (.int .i64 V.2.2.1)).setCell ⟨g4, 3, none⟩ (.int .i64 V.2.2.2))) := Lib.hid ((((HX5.out.other HNE.out).other HNE.out).other HNE.out).other HNE.out)
          generalize ((((W30.setCell ⟨g4, 0, none⟩ (.int .i64 V.1)).setCell ⟨g4, 1, none⟩ (.int .i64 V.2.1)).setCell ⟨g4, 2, none⟩ (.int .i64 V.2.2.1)).setCell ⟨g4, 3, none⟩ (.int .i64 V.2.2.2)) = W30a at hS2 HY4 HX5 ⊢
          clear hHeld
          refine hK.out _ _ hS2 (fun hHeld => ?_)
          clear hK Kq hS2
          try simp only [Tk.put]
          obtain ⟨⟨z0, z1, z2, z3⟩, z4, z5, z6, z7⟩ := HX5.out
          refine Tk.s 7 rfl (fun Kq hK => ?_)
          go_simp
          clear z0 z1 z2 z3 z4 z5 z6 z7
          have hS2 : Below W0.heap.size W0 ((((W30a.setCell ⟨g5, 0, none⟩ (.int .i64 V.1)).setCell ⟨g5, 1, none⟩ (.int .i64 V.2.1)).setCell ⟨g5, 2, none⟩ (.int .i64 V.2.2.1)).setCell ⟨g5, 3, none⟩ (.int .i64 V.2.2.2)) := (((hHeld.setCell (p := ⟨g5, 0, none⟩) HG5.out _).setCell (p := ⟨g5, 1, none⟩) HG5.out _).setCell (p := ⟨g5, 2, none⟩) HG5.out _).setCell (p := ⟨g5, 3, none⟩) HG5.out _
          have HY5 : Hid (QOk g5 V ((((W30a.setCell ⟨g5, 0, none⟩ (.int .i64 V.1)).setCell ⟨g5, 1, none⟩ (.int .i64 V.2.1)).setCell ⟨g5, 2, none⟩ (.int .i64 V.2.2.1)).setCell ⟨g5, 3, none⟩ (.int .i64 V.2.2.2))) := Lib.hid (qok_set4 HX5.out V)
          replace HY4 : Hid (QOk g4 V ((((W30a.setCell ⟨g5, 0, none⟩ (.int .i64 V.1)).setCell ⟨g5, 1, none⟩ (.int .i64 V.2.1)).setCell ⟨g5, 2, none⟩ (.int .i64 V.2.2.1)).setCell ⟨g5, 3, none⟩ (.int .i64 V.2.2.2))) := Lib.hid ((((HY4.out.other HNE2.out).other HNE2.out).other HNE2.out).other HNE2.out)
          generalize ((((W30a.setCell ⟨g5, 0, none⟩ (.int .i64 V.1)).setCell ⟨g5, 1, none⟩ (.int .i64 V.2.1)).setCell ⟨g5, 2, none⟩ (.int .i64 V.2.2.1)).setCell ⟨g5, 3, none⟩ (.int .i64 V.2.2.2)) = W30b at hS2 HY5 HY4 ⊢
          clear hHeld
          refine hK.out _ _ hS2 (fun hHeld => ?_)
          clear hK Kq hS2
          try simp only [Tk.put]
          refine wpAnyH_done (by kernel_rfl) ?_ _
          go_wp2_with fail
          go_meet
          exact ⟨_, _, rfl, rfl, Lib.hid HY4.out.1, Lib.hid HY5.out.1, Lib.hid hHeld⟩
        · skip
          go_simp
          have hS2 := hHeld.alloc hHeld.size (.cells #[.int .i64 0, .int .i64 0, .int .i64 0, .int .i64 0] 31)
          have HX4 := Lib.hid (QOk.new (0, 0, 0, 0) 31 W28)
          have HL4 : Hid (W28.heap.size < (W28.alloc (.cells #[.int .i64 0, .int .i64 0, .int .i64 0, .int .i64 0] 31)).heap.size) := Lib.hid (by simp)
          have HG4 : Hid (W0.heap.size ≤ W28.heap.size) := Lib.hid hHeld.size
          have hal : Below W28.heap.size W28 (W28.alloc (.cells #[.int .i64 0, .int .i64 0, .int .i64 0, .int .i64 0] 31)) := (Below.refl _ _).alloc (Nat.le_refl _) _
          replace HX5 := Lib.hid (HX5.out.below HL5.out hal)
          have HD : Hid (g5 ≠ W28.heap.size) := Lib.hid (by have := HL5.out; omega)
          replace HL5 : Hid (g5 < (W28.alloc (.cells #[.int .i64 0, .int .i64 0, .int .i64 0, .int .i64 0] 31)).heap.size) := Lib.hid (Nat.lt_of_lt_of_le HL5.out hal.size)
          clear hal
          generalize hg4 : W28.heap.size = g4 at *
          generalize (W28.alloc (.cells #[.int .i64 0, .int .i64 0, .int .i64 0, .int .i64 0] 31)) = W31 at *
          clear hHeld hg4
          refine hK.out _ _ hS2 (fun hHeld => ?_)
          clear hK Kq hS2
          try simp only [Tk.put]
          refine Tk.s 3 rfl (fun Kq hK => ?_)
          go_simp
          go_at_call 7
          refine (CBR.out _ hHeld).mono ?_
          rintro e W32 ⟨rfl, hb⟩
          have hS2 := hHeld.trans (hb.mono hHeld.size)
          replace HX5 := Lib.hid (HX5.out.below HL5.out hb)
          replace HL5 := Lib.hid (Nat.lt_of_lt_of_le HL5.out hb.size)
          replace HX4 := Lib.hid (HX4.out.below HL4.out hb)
          replace HL4 := Lib.hid (Nat.lt_of_lt_of_le HL4.out hb.size)
          clear hHeld hb
          dsimp only
          refine hK.out _ _ hS2 (fun hHeld => ?_)
          clear hK Kq hS2
          try simp only [Tk.put]
          obtain ⟨⟨z0, z1, z2, z3⟩, z4, z5, z6, z7⟩ := HX4.out
          have HNE : Hid (g5 ≠ g4) := Lib.hid HD.out
          have HNE2 : Hid (g4 ≠ g5) := Lib.hid (fun e => HD.out e.symm)
          refine Tk.s 6 rfl (fun Kq hK => ?_)
          go_simp
          clear z0 z1 z2 z3 z4 z5 z6 z7
          have hS2 : Below W0.heap.size W0 ((((W32.setCell ⟨g4, 0, none⟩ (.int .i64 V.1)).setCell ⟨g4, 1, none⟩ (.int .i64 V.2.1)).setCell ⟨g4, 2, none⟩ (.int .i64 V.2.2.1)).setCell ⟨g4, 3, none⟩ (.int .i64 V.2.2.2)) := (((hHeld.setCell (p := ⟨g4, 0, none⟩) HG4.out _).setCell (p := ⟨g4, 1, none⟩) HG4.out _).setCell (p := ⟨g4, 2, none⟩) HG4.out _).setCell (p := ⟨g4, 3, none⟩) HG4.out _
          have HY4 : Hid (QOk g4 V ((((W32.setCell ⟨g4, 0, none⟩ (.int .i64 V.1)).setCell ⟨g4, 1, none⟩ (.int .i64 V.2.1)).setCell ⟨g4, 2, none⟩ (.int .i64 V.2.2.1)).setCell ⟨g4, 3, none⟩ (.int .i64 V.2.2.2))) := Lib.hid (qok_set4 HX4.out V)
          replace HX5 : Hid (QOk g5 (0, 0, 0, 0) ((((W32.setCell ⟨g4, 0, none⟩ (.int .i64 V.1)).setCell ⟨g4, 1, none⟩ (.int .i64 V.2.1)).setCell ⟨g4, 2, none⟩ (.int .i64 V.2.2.1)).setCell ⟨g4, 3, none⟩ (.int .i64 V.2.2.2))) := Lib.hid ((((HX5.out.other HNE.out).other HNE.out).other HNE.out).other HNE.out)
          generalize ((((W32.setCell ⟨g4, 0, none⟩ (.int .i64 V.1)).setCell ⟨g4, 1, none⟩ (.int .i64 V.2.1)).setCell ⟨g4, 2, none⟩ (.int .i64 V.2.2.1)).setCell ⟨g4, 3, none⟩ (.int .i64 V.2.2.2)) = W32a at hS2 HY4 HX5 ⊢
          clear hHeld
          refine hK.out _ _ hS2 (fun hHeld => ?_)
          clear hK Kq hS2
          try simp only [Tk.put]
          obtain ⟨⟨z0, z1, z2, z3⟩, z4, z5, z6, z7⟩ := HX5.out
          refine Tk.s 7 rfl (fun Kq hK => ?_)
          go_simp
          clear z0 z1 z2 z3 z4 z5 z6 z7
          have hS2 : Below W0.heap.size W0 ((((W32a.setCell ⟨g5, 0, none⟩ (.int .i64 V.1)).setCell ⟨g5, 1, none⟩ (.int .i64 V.2.1)).setCell ⟨g5, 2, none⟩ (.int .i64 V.2.2.1)).setCell ⟨g5, 3, none⟩ (.int .i64 V.2.2.2)) := (((hHeld.setCell (p := ⟨g5, 0, none⟩) HG5.out _).setCell (p := ⟨g5, 1, none⟩) HG5.out _).setCell (p := ⟨g5, 2, none⟩) HG5.out _).setCell (p := ⟨g5, 3, none⟩) HG5.out _
          have HY5 : Hid (QOk g5 V ((((W32a.setCell ⟨g5, 0, none⟩ (.int .i64 V.1)).setCell ⟨g5, 1, none⟩ (.int .i64 V.2.1)).setCell ⟨g5, 2, none⟩ (.int .i64 V.2.2.1)).setCell ⟨g5, 3, none⟩ (.int .i64 V.2.2.2))) := Lib.hid (qok_set4 HX5.out V)
          replace HY4 : Hid (QOk g4 V ((((W32a.setCell ⟨g5, 0, none⟩ (.int .i64 V.1)).setCell ⟨g5, 1, none⟩ (.int .i64 V.2.1)).setCell ⟨g5, 2, none⟩ (.int .i64 V.2.2.1)).setCell ⟨g5, 3, none⟩ (.int .i64 V.2.2.2))) := Lib.hid ((((HY4.out.other HNE2.out).other HNE2.out).other HNE2.out).other HNE2.out)
          generalize ((((W32a.setCell ⟨g5, 0, none⟩ (.int .i64 V.1)).setCell ⟨g5, 1, none⟩ (.int .i64 V.2.1)).setCell ⟨g5, 2, none⟩ (.int .i64 V.2.2.1)).setCell ⟨g5, 3, none⟩ (.int .i64 V.2.2.2)) = W32b at hS2 HY5 HY4 ⊢
          clear hHeld
          refine hK.out _ _ hS2 (fun hHeld => ?_)
          clear hK Kq hS2
          try simp only [Tk.put]
          refine wpAnyH_done (by kernel_rfl) ?_ _
          go_wp2_with fail
          go_meet
          exact ⟨_, _, rfl, rfl, Lib.hid HY4.out.1, Lib.hid HY5.out.1, Lib.hid hHeld⟩
      · skip
        go_simp
        have hS2 := hHeld.alloc hHeld.size (.cells #[.int .i64 0, .int .i64 0, .int .i64 0, .int .i64 0] 31)
        have HX4 := Lib.hid (QOk.new (0, 0, 0, 0) 31 W27)
        have HL4 : Hid (W27.heap.size < (W27.alloc (.cells #[.int .i64 0, .int .i64 0, .int .i64 0, .int .i64 0] 31)).heap.size) := Lib.hid (by simp)
        have HG4 : Hid (W0.heap.size ≤ W27.heap.size) := Lib.hid hHeld.size
        have hal : Below W27.heap.size W27 (W27.alloc (.cells #[.int .i64 0, .int .i64 0, .int .i64 0, .int .i64 0] 31)) := (Below.refl _ _).alloc (Nat.le_refl _) _
        replace HX5 := Lib.hid (HX5.out.below HL5.out hal)
        have HD : Hid (g5 ≠ W27.heap.size) := Lib.hid (by have := HL5.out; omega)
        replace HL5 : Hid (g5 < (W27.alloc (.cells #[.int .i64 0, .int .i64 0, .int .i64 0, .int .i64 0] 31)).heap.size) := Lib.hid (Nat.lt_of_lt_of_le HL5.out hal.size)
        clear hal
        generalize hg4 : W27.heap.size = g4 at *
        generalize (W27.alloc (.cells #[.int .i64 0, .int .i64 0, .int .i64 0, .int .i64 0] 31)) = W33 at *
        clear hHeld hg4
        refine hK.out _ _ hS2 (fun hHeld => ?_)
        clear hK Kq hS2
        try simp only [Tk.put]
        refine Tk.s 1 rfl (fun Kq hK => ?_)
        go_simp
        go_at_call 6
        refine (CBC.out _ hHeld).mono ?_
        rintro e W34 ⟨rfl, hb⟩
        have hS2 := hHeld.trans (hb.mono hHeld.size)
        replace HX5 := Lib.hid (HX5.out.below HL5.out hb)
        replace HL5 := Lib.hid (Nat.lt_of_lt_of_le HL5.out hb.size)
        replace HX4 := Lib.hid (HX4.out.below HL4.out hb)
        replace HL4 := Lib.hid (Nat.lt_of_lt_of_le HL4.out hb.size)
        clear hHeld hb
        dsimp only
        refine hK.out _ _ hS2 (fun hHeld => ?_)
        clear hK Kq hS2
        try simp only [Tk.put]
        refine Tk.s 3 rfl (fun Kq hK => ?_)
        go_simp
        go_at_call 7
        refine (CBR.out _ hHeld).mono ?_
        rintro e W35 ⟨rfl, hb⟩
        have hS2 := hHeld.trans (hb.mono hHeld.size)
        replace HX5 := Lib.hid (HX5.out.below HL5.out hb)
        replace HL5 := Lib.hid (Nat.lt_of_lt_of_le HL5.out hb.size)
        replace HX4 := Lib.hid (HX4.out.below HL4.out hb)
        replace HL4 := Lib.hid (Nat.lt_of_lt_of_le HL4.out hb.size)
        clear hHeld hb
        dsimp only
        refine hK.out _ _ hS2 (fun hHeld => ?_)
        clear hK Kq hS2
        try simp only [Tk.put]
        obtain ⟨⟨z0, z1, z2, z3⟩, z4, z5, z6, z7⟩ := HX4.out
        have HNE : Hid (g5 ≠ g4) := Lib.hid HD.out
        have HNE2 : Hid (g4 ≠ g5) := Lib.hid (fun e => HD.out e.symm)
        refine Tk.s 6 rfl (fun Kq hK => ?_)
        go_simp
        clear z0 z1 z2 z3 z4 z5 z6 z7
        have hS2 : Below W0.heap.size W0 ((((W35.setCell ⟨g4, 0, none⟩ (.int .i64 V.1)).setCell ⟨g4, 1, none⟩ (.int .i64 V.2.1)).setCell ⟨g4, 2, none⟩ (.int .i64 V.2.2.1)).setCell ⟨g4, 3, none⟩ (.int .i64 V.2.2.2)) := (((hHeld.setCell (p := ⟨g4, 0, none⟩) HG4.out _).setCell (p := ⟨g4, 1, none⟩) HG4.out _).setCell (p := ⟨g4, 2, none⟩) HG4.out _).setCell (p := ⟨g4, 3, none⟩) HG4.out _
        have HY4 : Hid (QOk g4 V ((((W35.setCell ⟨g4, 0, none⟩ (.int .i64 V.1)).setCell ⟨g4, 1, none⟩ (.int .i64 V.2.1)).setCell ⟨g4, 2, none⟩ (.int .i64 V.2.2.1)).setCell ⟨g4, 3, none⟩ (.int .i64 V.2.2.2))) := Lib.hid (qok_set4 HX4.out V)
        replace HX5 : Hid (QOk g5 (0, 0, 0, 0) ((((W35.setCell ⟨g4, 0, none⟩ (.int .i64 V.1)).setCell ⟨g4, 1, none⟩ (.int .i64 V.2.1)).setCell ⟨g4, 2, none⟩ (.int .i64 V.2.2.1)).setCell ⟨g4, 3, none⟩ (.int .i64 V.2.2.2))) := Lib.hid ((((HX5.out.other HNE.out).other HNE.out).other HNE.out).other HNE.out)
        generalize ((((W35.setCell ⟨g4, 0, none⟩ (.int .i64 V.1)).setCell ⟨g4, 1, none⟩ (.int .i64 V.2.1)).setCell ⟨g4, 2, none⟩ (.int .i64 V.2.2.1)).setCell ⟨g4, 3, none⟩ (.int .i64 V.2.2.2)) = W35a at hS2 HY4 HX5 ⊢
        clear hHeld
        refine hK.out _ _ hS2 (fun hHeld => ?_)
        clear hK Kq hS2
        try simp only [Tk.put]
        obtain ⟨⟨z0, z1, z2, z3⟩, z4, z5, z6, z7⟩ := HX5.out
        refine Tk.s 7 rfl (fun Kq hK => ?_)
        go_simp
        clear z0 z1 z2 z3 z4 z5 z6 z7
        have hS2 : Below W0.heap.size W0 ((((W35a.setCell ⟨g5, 0, none⟩ (.int .i64 V.1)).setCell ⟨g5, 1, none⟩ (.int .i64 V.2.1)).setCell ⟨g5, 2, none⟩ (.int .i64 V.2.2.1)).setCell ⟨g5, 3, none⟩ (.int .i64 V.2.2.2)) := (((hHeld.setCell (p := ⟨g5, 0, none⟩) HG5.out _).setCell (p := ⟨g5, 1, none⟩) HG5.out _).setCell (p := ⟨g5, 2, none⟩) HG5.out _).setCell (p := ⟨g5, 3, none⟩) HG5.out _
        have HY5 : Hid (QOk g5 V ((((W35a.setCell ⟨g5, 0, none⟩ (.int .i64 V.1)).setCell ⟨g5, 1, none⟩ (.int .i64 V.2.1)).setCell ⟨g5, 2, none⟩ (.int .i64 V.2.2.1)).setCell ⟨g5, 3, none⟩ (.int .i64 V.2.2.2))) := Lib.hid (qok_set4 HX5.out V)
        replace HY4 : Hid (QOk g4 V ((((W35a.setCell ⟨g5, 0, none⟩ (.int .i64 V.1)).setCell ⟨g5, 1, none⟩ (.int .i64 V.2.1)).setCell ⟨g5, 2, none⟩ (.int .i64 V.2.2.1)).setCell ⟨g5, 3, none⟩ (.int .i64 V.2.2.2))) := Lib.hid ((((HY4.out.other HNE2.out).other HNE2.out).other HNE2.out).other HNE2.out)
        generalize ((((W35a.setCell ⟨g5, 0, none⟩ (.int .i64 V.1)).setCell ⟨g5, 1, none⟩ (.int .i64 V.2.1)).setCell ⟨g5, 2, none⟩ (.int .i64 V.2.2.1)).setCell ⟨g5, 3, none⟩ (.int .i64 V.2.2.2)) = W35b at hS2 HY5 HY4 ⊢
        clear hHeld
        refine hK.out _ _ hS2 (fun hHeld => ?_)
        clear hK Kq hS2
        try simp only [Tk.put]
        refine wpAnyH_done (by kernel_rfl) ?_ _
        go_wp2_with fail
        go_meet
        exact ⟨_, _, rfl, rfl, Lib.hid HY4.out.1, Lib.hid HY5.out.1, Lib.hid hHeld⟩
  case rest =>
    obtain ⟨g3, g4, rfl, rfl, HQ3, HQ4, HWC⟩ := hcut
    have HWC0 := Lib.hid (HB1.out.trans (HWC.out.mono HB1.out.size))
    have HL3 : Hid (g3 < wc.heap.size) := Lib.hid (Kit.block_lt HQ3.out.1)
    have HL4 : Hid (g4 < wc.heap.size) := Lib.hid (Kit.block_lt HQ4.out.1)
    have HC3 : Hid (∀ wS, Below wc.heap.size wc wS → QAt g3 V wS) := Lib.hid (fun wS h => QAt.below HQ3.out HL3.out h)
    have HC4 : Hid (∀ wS, Below wc.heap.size wc wS → QAt g4 V wS) := Lib.hid (fun wS h => QAt.below HQ4.out HL4.out h)
    have HUC2 : Hid (∀ wS, Below wc.heap.size wc wS → UAt w.heap.size u wS) := Lib.hid (fun wS h => HUC.out wS (HWC.out.trans (h.mono HWC.out.size)))
    go_upto_region 4 with fail
    refine wp_region_held_drew (S := fun wx => Below wc.heap.size wc wx) (by kernel_rfl) (Below.refl _ _).drew (fun hHeld => ?_)
    generalize wc.drew = W80 at hHeld ⊢
    refine Tk.x 0 rfl ?_
    try simp only [Tk.put]
    refine Tk.y 1 (v := .int .i64 V.1) rfl ?_ ?_
    · intro wS hSw
      obtain ⟨q0, q1, q2, q3⟩ := HC3.out wS hSw
      first | (go_simp; done) | (go_simp; with_reducible rfl)
    try simp only [Tk.put]
    refine Tk.x 2 rfl ?_
    try simp only [Tk.put]
    refine Tk.y 3 (v := .int .i64 V.1) rfl ?_ ?_
    · intro wS hSw
      obtain ⟨q0, q1, q2, q3⟩ := HC4.out wS hSw
      first | (go_simp; done) | (go_simp; with_reducible rfl)
    try simp only [Tk.put]
    refine Tk.y 4 (v := .bool true) rfl ?_ ?_
    · intro wS hSw
      first | (go_simp; done) | (go_simp; with_reducible rfl)
    try simp only [Tk.put]
    refine Tk.x 5 rfl ?_
    try simp only [Tk.put]
    refine Tk.x 6 rfl ?_
    try simp only [Tk.put]
    refine Tk.y 7 (v := .int .i64 V.2.1) rfl ?_ ?_
    · intro wS hSw
      obtain ⟨q0, q1, q2, q3⟩ := HC3.out wS hSw
      first | (go_simp; done) | (go_simp; with_reducible rfl)
    try simp only [Tk.put]
    refine Tk.x 8 rfl ?_
    try simp only [Tk.put]
    refine Tk.y 9 (v := .int .i64 V.2.1) rfl ?_ ?_
    · intro wS hSw
      obtain ⟨q0, q1, q2, q3⟩ := HC4.out wS hSw
      first | (go_simp; done) | (go_simp; with_reducible rfl)
    try simp only [Tk.put]
    refine Tk.y 10 (v := .bool true) rfl ?_ ?_
    · intro wS hSw
      first | (go_simp; done) | (go_simp; with_reducible rfl)
    try simp only [Tk.put]
    refine Tk.x 11 rfl ?_
    try simp only [Tk.put]
    refine Tk.x 12 rfl ?_
    try simp only [Tk.put]
    refine Tk.x 13 rfl ?_
    try simp only [Tk.put]
    refine Tk.y 14 (v := .int .i64 V.2.2.1) rfl ?_ ?_
    · intro wS hSw
      obtain ⟨q0, q1, q2, q3⟩ := HC3.out wS hSw
      first | (go_simp; done) | (go_simp; with_reducible rfl)
    try simp only [Tk.put]
    refine Tk.x 15 rfl ?_
    try simp only [Tk.put]
    refine Tk.y 16 (v := .int .i64 V.2.2.1) rfl ?_ ?_
    · intro wS hSw
      obtain ⟨q0, q1, q2, q3⟩ := HC4.out wS hSw
      first | (go_simp; done) | (go_simp; with_reducible rfl)
    try simp only [Tk.put]
    refine Tk.y 17 (v := .bool true) rfl ?_ ?_
    · intro wS hSw
      first | (go_simp; done) | (go_simp; with_reducible rfl)
    try simp only [Tk.put]
    refine Tk.x 18 rfl ?_
    try simp only [Tk.put]
    refine Tk.x 19 rfl ?_
    try simp only [Tk.put]
    refine Tk.x 20 rfl ?_
    try simp only [Tk.put]
    refine Tk.y 21 (v := .int .i64 V.2.2.2) rfl ?_ ?_
    · intro wS hSw
      obtain ⟨q0, q1, q2, q3⟩ := HC3.out wS hSw
      first | (go_simp; done) | (go_simp; with_reducible rfl)
    try simp only [Tk.put]
    refine Tk.x 22 rfl ?_
    try simp only [Tk.put]
    refine Tk.y 23 (v := .int .i64 V.2.2.2) rfl ?_ ?_
    · intro wS hSw
      obtain ⟨q0, q1, q2, q3⟩ := HC4.out wS hSw
      first | (go_simp; done) | (go_simp; with_reducible rfl)
    try simp only [Tk.put]
    refine Tk.y 24 (v := .bool true) rfl ?_ ?_
    · intro wS hSw
      first | (go_simp; done) | (go_simp; with_reducible rfl)
    try simp only [Tk.put]
    refine Tk.x 25 rfl ?_
    try simp only [Tk.put]
    refine Tk.x 26 rfl ?_
    try simp only [Tk.put]
    refine Tk.y 27 (v := .agg #[.int .i64 u.H, .int .i64 u.W, .int .i64 u.C, .int .i64 u.cl, .slice u.A u.n u.c]) rfl ?_ ?_
    · intro wS hSw
      obtain ⟨q0, q1, q2, q3, q4⟩ := HUC2.out wS hSw
      first | (go_simp; done) | (go_simp; with_reducible rfl)
    try simp only [Tk.put]
    refine Tk.y 29 (v := .agg #[.int .i64 u.H, .int .i64 u.W, .int .i64 u.C, .int .i64 u.cl, .slice u.A u.n u.c]) rfl ?_ ?_
    · intro wS hSw
      obtain ⟨q0, q1, q2, q3, q4⟩ := HUC2.out wS hSw
      first | (go_simp; done) | (go_simp; with_reducible rfl)
    try simp only [Tk.put]
    refine Tk.s 28 rfl (fun Kq hK => ?_)
    go_simp
    go_at_call 8
    refine (CRC.out _ (HWC.out.trans (hHeld.mono HWC.out.size))).mono ?_
    rintro e W81 ⟨rfl, hb⟩
    have hS2 := hHeld.trans (hb.mono hHeld.size)
    clear hHeld hb
    dsimp only
    refine hK.out _ _ hS2 (fun hHeld => ?_)
    clear hK Kq hS2
    try simp only [Tk.put]
    refine Tk.s 30 rfl (fun Kq hK => ?_)
    go_simp
    go_at_call 9
    refine (CRR.out _ (HWC.out.trans (hHeld.mono HWC.out.size))).mono ?_
    rintro e W82 ⟨rfl, hb⟩
    have hS2 := hHeld.trans (hb.mono hHeld.size)
    clear hHeld hb
    dsimp only
    refine hK.out _ _ hS2 (fun hHeld => ?_)
    clear hK Kq hS2
    try simp only [Tk.put]
    refine Tk.y 31 (v := .bool true) rfl ?_ ?_
    · intro wS hSw
      first | (go_simp; done) | (go_simp; with_reducible rfl)
    try simp only [Tk.put]
    refine Tk.x 32 rfl ?_
    try simp only [Tk.put]
    refine Tk.x 33 rfl ?_
    try simp only [Tk.put]
    refine Tk.s 34 rfl (fun Kq hK => ?_)
    go_simp
    go_at_call 5
    refine (known33 _ (HT.out.grown (HWC0.out.trans (hHeld.mono HWC0.out.size)))).mono ?_
    rintro e W83 ⟨rfl, hb⟩
    have hS2 := hHeld.trans (hb.mono hHeld.size)
    clear hHeld hb
    dsimp only
    refine hK.out _ _ hS2 (fun hHeld => ?_)
    clear hK Kq hS2
    try simp only [Tk.put]
    refine Tk.x 35 rfl ?_
    try simp only [Tk.put]
    refine Tk.x 36 rfl ?_
    try simp only [Tk.put]
    refine wpAnyH_done (by kernel_rfl) ?_ _
    go_wp2_with fail
    go_ret
    exact ⟨rfl, HWC0.out.trans (hHeld.mono HWC0.out.size)⟩
/-! ### the frame: written by program -/
theorem own : ownKnob Tryz.prog.godebug = none := by kernel_rfl
theorem laid : laidOutB Tryz.prog = true := by kernel_rfl
theorem contract {H : Type} {enc : TypeId × Value → H} {W : World} {base : Nat} {args : Array Value} {ds gs : List (DataW H)} {before : List MemPlace}
    (hval0 : ∀ (j : Nat) t v, Tryz.f3.params[j]? = some t → args[j]? = some v → Value.okWide Tryz.prog W .any base t v)
    (hW : DataW.Whole enc Tryz.prog Tryz.f3.params.toList Rows.validBundlesSpec.vars false W args.toList ds gs before)
    (hL : laidMetH Tryz.prog [("stepwell/kinds.names", Rows.laid_stepwell_kinds_names)] W) :
    Calls Tryz.prog 3 args W fun e W' => e = .returned (.bool true) ∧ Below W.heap.size W W' := by
  have hval : ∀ (j : Nat) t v, Tryz.f3.params[j]? = some t → args[j]? = some v → Value.okWide Tryz.prog W .any base t v := hval0
  obtain ⟨p, q, hA0, hV, rfl, hfz, hnd⟩ := hW
  have hA : DataW.TrodAll enc Tryz.prog W 0 (fun _ => true) true Tryz.f3.params.toList args.toList ds p := hA0
  rw [Tryz.params3] at hA hval
  obtain ⟨v0, vs0, d0, ds0, p0, q0, hargs, rfl, rfl, h0, r0⟩ := trodAll_cons hA
  obtain ⟨rfl, rfl, rfl⟩ := trodAll_nil r0
  obtain rfl : args = #[v0] := by cases args; simp_all
  clear hA0 hval0
  obtain ⟨u0, rfl, hu0⟩ := CBund.open_bundle (hval 0 26 v0 rfl rfl) h0
  exact walk (w := W) u0 hu0 (of_laid hL)
theorem fnIs {H : Type} : ∀ ds : List (DataW H), ds.length = Tryz.f3.params.toList.length → Rows.validBundlesSpec.fn H ds = { results := [.lit (.bool true)], args := ds } := by
  intro ds h
  rw [Tryz.params3] at h
  match ds, h with
  | [d1], _ => rfl
theorem door_met (os : Os) (args : Array Value) : laidMetH Tryz.prog [("stepwell/kinds.names", Rows.laid_stepwell_kinds_names)] ((World.doorLaid Tryz.prog 400 os).forCall (fun _ _ => 0) ⟨#[], args, []⟩).memory :=
  laidMetH_of_parts3 (fuel := 8) (laidMet_of_run' 8 (by kernel_rfl) (by kernel_rfl)) (by kernel_rfl) (by kernel_rfl)
set_option maxRecDepth 100000 in
theorem lifted (os : Os) (started : os.Started) (H : Type) (enc : TypeId × Value → H) :
    ReturnsInHanded {} Tryz.checked os 3 .any (fun w args => (Rows.validBundlesSpec.pre enc Tryz.prog Tryz.f3 [] false w args ∧ laidMetH Tryz.prog [("stepwell/kinds.names", Rows.laid_stepwell_kinds_names)] w) ∧ sizedMet enc Tryz.prog Tryz.f3 (OpenSpec.ofChange Rows.validBundlesSpec) false w args) (Rows.validBundlesSpec.post enc Tryz.prog Tryz.f3 false true false false) := by
  refine returnsInHanded_of_change_and (C := Tryz.checked) (X := fun w _ => laidMetH Tryz.prog [("stepwell/kinds.names", Rows.laid_stepwell_kinds_names)] w) (fun _ _ _ hh h => h.of_heap hh) own started (by kernel_rfl) Tryz.func3
    (ChangeSpec.witness_shaped (enc := enc) (C := Tryz.checked) (os := os) (X := fun w _ => laidMetH Tryz.prog [("stepwell/kinds.names", Rows.laid_stepwell_kinds_names)] w) false (World.doorLaid Tryz.prog 400 os) #[.agg #[.int .i64 0, .int .i64 0, .int .i64 0, .int .i64 0, .slice none 0 0]] 8 rfl (World.shaped_of_RefB (by kernel_rfl) (by kernel_rfl)) (by kernel_rfl) (by kernel_rfl) (by kernel_rfl) (door_met os _)) ?_
  intro W base args ds gs before hval hW _ _ hL _
  refine (contract hval hW hL).mono fun e W' ⟨he, hg⟩ => ?_
  subst he
  exact ⟨_, rfl, Kit.law_post (tb := 4) laid (by kernel_rfl) rfl (by kernel_rfl) Tryz.underlying4 fnIs hW hg⟩
theorem over : Rows.validBundlesRow.holds Tryz.pinned (OpenSpec.ofChange Rows.validBundlesSpec) :=
  OpenClaim.holds_of_wide 3 Tryz.f3 rfl rfl rfl rfl rfl rfl rfl ⟨rfl, rfl, rfl, rfl, rfl⟩ rfl rfl rfl rfl rfl (by kernel_rfl) Tryz.func3 (by kernel_rfl)
    (of_decide_eq_true (by kernel_rfl)) (by unfold Func.isWrapper; first | (rw [if_pos (by decide +kernel)]; kernel_rfl) | (rw [if_neg (by decide +kernel)]; exact ⟨rfl, rfl⟩))
    (fun os started H enc _ => lifted os started H enc)
/-- the statement: the tied card. -/
theorem proved : Rows.ValidBundlesCardSaid :=
  Claim7.holds_tied_plain_at .later [] [.data] true (true, "00b8f702130f2c7a258ba923cf950049abcabae21501ffce69d1b6e21820e6a8") false
    over (fun _ h => by cases h) (by kernel_rfl) (fun _ h => by cases h) validBundles_row_tie rfl ⟨rfl, rfl⟩ (by kernel_rfl) rfl
    (fun f fn hf hfn => by
      obtain rfl : f = 3 := Option.some.inj ((show Tryz.prog.funcNamed "stepwell/stepwelllaw33.ValidBundles" = some 3 by kernel_rfl).symm.trans hf) |>.symm
      obtain rfl : fn = Tryz.f3 := (Option.some.inj (Tryz.func3.symm.trans hfn)).symm
      exact ⟨by kernel_rfl, fun j t ht => by
        rw [Tryz.params3] at ht
        have hm : t ∈ [26] := by simpa using Array.mem_of_getElem? ht
        have hall : ([26].all fun u => !Tryz.prog.wantsStandIn u) = true := by kernel_rfl
        exact (show Tryz.prog.wantsStandIn t = false by simpa using List.all_eq_true.1 hall t hm)⟩)
    (by kernel_rfl)
end Go.Proofs.YtoffcaldhojjoaaGreatDoor.lawValidBundles
