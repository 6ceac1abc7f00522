/- For all pairs of rows of four numbers of 16 bits: the law FourBack answers true (four numbers come back from their sums, and from sums that were put together, and the fixed call answers as it must), and nothing that was there before the call has turned. No conditions. -/
import Derived.Test.YtdohcmjpaepmlaaFourLem
import Derived.Test.YtdohcmjpaepmlaaFourPlus
import Derived.Deep.RegionHeld3
import Derived.Deep.QuietTactic
import Derived.Deep.CutRange
namespace Go.Proofs.Ytdohcmjpaepmlaa.lawFourBack
open Go Go.ChangeShapes Go.WideShapes Go.ChangeAt Go.RowKit
open FloatNum CFour
set_option linter.unusedVariables false

theorem in16 {n : Int} (h : (Lit.int .i16 n).wf = true) : In16 n := by
  simp [Lit.wf, IntKind.min, IntKind.max, IntKind.bits, IntKind.signed] at h; exact ⟨by omega, by omega⟩
theorem sums_bd {a b c d : Int} (ha : In16 a) (hb : In16 b) (hc : In16 c) (hd : In16 d) (i : Nat) : Bd 131072 (sums4 a b c d i) := gpart_bd (.inr rfl) (lp_bd ha hb hc hd) i 4
set_option maxHeartbeats 8000000 in
set_option maxRecDepth 4000 in
theorem walk {w : World} (a0 : Int) (wa0 : (Lit.int .i16 a0).wf = true) (a1 : Int) (wa1 : (Lit.int .i16 a1).wf = true) (a2 : Int) (wa2 : (Lit.int .i16 a2).wf = true) (a3 : Int) (wa3 : (Lit.int .i16 a3).wf = true) (b0 : Int) (wb0 : (Lit.int .i16 b0).wf = true) (b1 : Int) (wb1 : (Lit.int .i16 b1).wf = true) (b2 : Int) (wb2 : (Lit.int .i16 b2).wf = true) (b3 : Int) (wb3 : (Lit.int .i16 b3).wf = true) :
    Calls Try.prog 4 #[.agg #[.int .i16 a0, .int .i16 a1, .int .i16 a2, .int .i16 a3], .agg #[.int .i16 b0, .int .i16 b1, .int .i16 b2, .int .i16 b3]] w fun e w' => e = .returned (.bool true) ∧ Below w.heap.size w w' := by
  have HA0 := Lib.hid (in16 wa0)
  have HC0 := Lib.hid (in16 wb0)
  have HA1 := Lib.hid (in16 wa1)
  have HC1 := Lib.hid (in16 wb1)
  have HA2 := Lib.hid (in16 wa2)
  have HC2 := Lib.hid (in16 wb2)
  have HA3 := Lib.hid (in16 wa3)
  have HC3 := Lib.hid (in16 wb3)
  have HPA := Lib.hid (sums_bd HA0.out HA1.out HA2.out HA3.out)
  have HPB := Lib.hid (sums_bd HC0.out HC1.out HC2.out HC3.out)
  have L53 : Hid ((131072 : Nat) < 2 ^ 53) := Lib.hid (by decide)
  clear wa0 wa1 wa2 wa3 wb0 wb1 wb2 wb3
  obtain ⟨PC, hPC⟩ : ∃ f, (fun k => gadd (sums4 a0 a1 a2 a3 k) (sums4 b0 b1 b2 b3 k)) = f := ⟨_, rfl⟩
  obtain ⟨BC, hBC⟩ : ∃ n : Nat, n = 262144 := ⟨_, rfl⟩
  obtain ⟨L, hL⟩ : ∃ f : Nat → Int, f = fun i => l4 a0 a1 a2 a3 i + l4 b0 b1 b2 b3 i := ⟨_, rfl⟩
  obtain ⟨LA, hLA⟩ : ∃ f : Nat → Int, f = l4 a0 a1 a2 a3 := ⟨_, rfl⟩
  have HPC : Hid (∀ i, Bd BC (PC i)) := Lib.hid (fun i => by
    rw [← hPC, hBC]
    exact (HPA.out i).add (HPB.out i))
  have HL : Hid (∀ i, i < 4 → (gpart PC 1 i 4).1 = 4 * L i) := Lib.hid (fun i hi => by rw [← hPC, hL]; exact back_two a0 a1 a2 a3 b0 b1 b2 b3 i hi)
  have HLA : Hid (∀ i, i < 4 → (gpart (sums4 a0 a1 a2 a3) 1 i 4).1 = 4 * LA i) := Lib.hid (fun i hi => by rw [hLA]; exact back_one a0 a1 a2 a3 i hi)
  have L48 : Hid (BC ≤ 2 ^ 48) := Lib.hid (by rw [hBC]; decide)
  have L48a : Hid ((131072 : Nat) ≤ 2 ^ 48) := Lib.hid (by decide)
  have LAB : Hid ((131072 : Nat) + 131072 < 2 ^ 53) := Lib.hid (by decide)
  have HSC0 : Hid (∀ S : Nat → Value, (∀ i, i < 4 → IsC (S i) (gadd (sums4 a0 a1 a2 a3 i) (sums4 b0 b1 b2 b3 i))) → ∀ i, i < 4 → IsC (S i) (PC i)) := Lib.hid (fun S h => by rw [← hPC]; exact h)
  have HE0 : Hid (LA 0 = a0 ∧ LA 1 = a1 ∧ LA 2 = a2 ∧ LA 3 = a3) := Lib.hid (by rw [hLA]; exact ⟨rfl, rfl, rfl, rfl⟩)
  have HE1 : Hid (L 0 = a0 + b0 ∧ L 1 = a1 + b1 ∧ L 2 = a2 + b2 ∧ L 3 = a3 + b3) := Lib.hid (by rw [hL]; exact ⟨rfl, rfl, rfl, rfl⟩)
  clear hPC hBC hL hLA
  go_enter Try.func4, Try.ntmps4
  go_wp2_with (first
    | (go_at_call 10; ((with_reducible refine (of_to a0 a1 a2 a3 HA0.out HA1.out HA2.out HA3.out _).mono ?_); rintro e1 w1 ⟨⟨SZ, rfl, hSZ⟩, hb1⟩; have HSZ := Lib.hid hSZ; clear hSZ))
    | (go_at_call 9; ((with_reducible refine (back_to SZ (sums4 a0 a1 a2 a3) 131072 L48a.out HSZ.out HPA.out LA HLA.out _).mono ?_); rintro e2 w2 ⟨rfl, hb2⟩; unfold agi)))
  have h0 : Four w.heap.size (fun i => .int .i16 (l4 a0 a1 a2 a3 i)) ((w.alloc (.cells #[.int .i16 a0, .int .i16 a1, .int .i16 a2, .int .i16 a3] 23)).alloc (.cells #[.int .i16 b0, .int .i16 b1, .int .i16 b2, .int .i16 b3] 23)) := (Four.box w (fun i => .int .i16 (l4 a0 a1 a2 a3 i)) 23).below ((Below.refl _ _).alloc (Nat.le_refl _) (.cells #[.int .i16 b0, .int .i16 b1, .int .i16 b2, .int .i16 b3] 23)) (by simp)
  have h1 : Four (w.heap.size + 1) (fun i => .int .i16 (l4 b0 b1 b2 b3 i)) ((w.alloc (.cells #[.int .i16 a0, .int .i16 a1, .int .i16 a2, .int .i16 a3] 23)).alloc (.cells #[.int .i16 b0, .int .i16 b1, .int .i16 b2, .int .i16 b3] 23)) := by
    have h := Four.box (w.alloc (.cells #[.int .i16 a0, .int .i16 a1, .int .i16 a2, .int .i16 a3] 23)) (fun i => .int .i16 (l4 b0 b1 b2 b3 i)) 23
    have e1 : (w.alloc (.cells #[.int .i16 a0, .int .i16 a1, .int .i16 a2, .int .i16 a3] 23)).heap.size = w.heap.size + 1 := by simp
    rw [e1] at h
    exact h
  have h2 : Below w.heap.size w ((w.alloc (.cells #[.int .i16 a0, .int .i16 a1, .int .i16 a2, .int .i16 a3] 23)).alloc (.cells #[.int .i16 b0, .int .i16 b1, .int .i16 b2, .int .i16 b3] 23)) := ((Below.refl _ _).alloc (Nat.le_refl _) _).alloc (by simp) _
  have HX := Lib.hid h0
  have HY := Lib.hid h1
  have HB := Lib.hid h2
  have g1 : w.heap.size + 1 < w1.heap.size := by have := hb1.size; simp at this; omega
  have g2 : w.heap.size + 1 < w2.heap.size := by have := hb2.size; omega
  have GX := Lib.hid ((((h0.below hb1 (by simp; omega)).below hb2 (by omega)).below ((Below.refl _ _).alloc (Nat.le_refl _) (.cells #[.int .i64 (LA 0), .int .i64 (LA 1), .int .i64 (LA 2), .int .i64 (LA 3)] 31)) (by omega)))
  have GY := Lib.hid ((((h1.below hb1 (by simp)).below hb2 (by omega)).below ((Below.refl _ _).alloc (Nat.le_refl _) (.cells #[.int .i64 (LA 0), .int .i64 (LA 1), .int .i64 (LA 2), .int .i64 (LA 3)] 31)) (by omega)))
  have GB := Lib.hid (((h2.trans (hb1.mono (by simp; omega))).trans (hb2.mono (by omega))).alloc (by omega) (.cells #[.int .i64 (LA 0), .int .i64 (LA 1), .int .i64 (LA 2), .int .i64 (LA 3)] 31))
  have GZ := Lib.hid (Four.box w2 (fun i => .int .i64 (LA i)) 31)
  clear h0 h1 h2 HX HY HB hb1 hb2
  have HX := GX
  have HY := GY
  have HB := GB
  have HZ := GZ
  clear GX GY GB GZ
  go_cut [6] from 11 to 17 (fun s6 wx => ∃ g : Nat, s6 = .pointer (some ⟨g, 0, none⟩) ∧ Hid (Four g (fun i => .int .i64 (L i)) wx) ∧ Hid (Four w.heap.size (fun i => .int .i16 (l4 a0 a1 a2 a3 i)) wx) ∧ Hid (Four (w.heap.size + 1) (fun i => .int .i16 (l4 b0 b1 b2 b3 i)) wx) ∧ Hid (Four w2.heap.size (fun i => .int .i64 (LA i)) wx) ∧ Hid (Below w.heap.size w wx))
  case first =>
    generalize w2.alloc (.cells #[.int .i64 (LA 0), .int .i64 (LA 1), .int .i64 (LA 2), .int .i64 (LA 3)] 31) = w0 at HX HY HB HZ ⊢
    refine wp_region_held_drew (S := fun W => Four w.heap.size (fun i => .int .i16 (l4 a0 a1 a2 a3 i)) W ∧ Four (w.heap.size + 1) (fun i => .int .i16 (l4 b0 b1 b2 b3 i)) W) (by kernel_rfl) ⟨HX.out.drew, HY.out.drew⟩ (fun hHeld => ?_)
    replace HX := Lib.hid HX.out.drew
    replace HY := Lib.hid HY.out.drew
    replace HB := Lib.hid HB.out.drew
    replace HZ := Lib.hid HZ.out.drew
    generalize w0.drew = Wd at HX HY HB HZ hHeld ⊢
    refine wpAnyH_take (i := 0) (oi := ({ dst := some 11, op := Op.load 23 (Operand.tmp 2), type := 23, pos := "law.go:30", after := #[], guard := none } : Oper)) (v := ?_) rfl (by kernel_rfl) (by kernel_rfl) (by kernel_rfl) (fun _ _ _ h => h) (Or.inl ⟨by rfl, ?_⟩) (by assumption) ?_
    rotate_left
    · intro wS hSw
      obtain ⟨hsx, hsy⟩ := hSw
      have c0 := hsx.1 0 (by decide)
      have c1 := hsx.1 1 (by decide)
      have c2 := hsx.1 2 (by decide)
      have c3 := hsx.1 3 (by decide)
      simp only [l4] at c0 c1 c2 c3
      clear hsx hsy
      first
        | (go_simp; done)
        | (go_simp; with_reducible rfl)
    try simp only [Act.put, List.setIfInBounds_toArray, List.set_cons_zero, List.set_cons_succ]
    refine wpAnyH_take (i := 2) (oi := ({ dst := some 13, op := Op.load 23 (Operand.tmp 3), type := 23, pos := "law.go:30", after := #[], guard := none } : Oper)) (v := ?_) rfl (by kernel_rfl) (by kernel_rfl) (by kernel_rfl) (fun _ _ _ h => h) (Or.inl ⟨by rfl, ?_⟩) (by assumption) ?_
    rotate_left
    · intro wS hSw
      obtain ⟨hsx, hsy⟩ := hSw
      have c0 := hsy.1 0 (by decide)
      have c1 := hsy.1 1 (by decide)
      have c2 := hsy.1 2 (by decide)
      have c3 := hsy.1 3 (by decide)
      simp only [l4] at c0 c1 c2 c3
      clear hsx hsy
      first
        | (go_simp; done)
        | (go_simp; with_reducible rfl)
    try simp only [Act.put, List.setIfInBounds_toArray, List.set_cons_zero, List.set_cons_succ]
    refine wpAnyH_ready (rs := [1, 6]) (by kernel_rfl) (by simp) ?_
    refine AllReadyH.cons (o := ({ dst := some 12, op := Op.call { callee := Callee.value (Operand.func 10), args := #[Operand.tmp 11], argTypes := #[23] }, type := 34, pos := "law.go:30", after := #[{ on := 0, ground := Ground.data }], guard := none } : Oper)) rfl (fun K hK => ?_) ?_
    · go_simp
      go_at_call 10
      refine (of_to a0 a1 a2 a3 HA0.out HA1.out HA2.out HA3.out _).mono ?_
      rintro e Wc1 ⟨⟨SA, rfl, hSA⟩, hb1⟩
      have HSA := Lib.hid hSA
      clear hSA
      replace HX := Lib.hid (HX.out.below hb1 HX.out.2.2)
      replace HY := Lib.hid (HY.out.below hb1 HY.out.2.2)
      replace HB := Lib.hid (HB.out.trans (hb1.mono HB.out.size))
      replace HZ := Lib.hid (HZ.out.below hb1 HZ.out.2.2)
      clear hb1 hHeld
      dsimp only
      refine hK.out _ _ ?_ (fun hHeld => ?_)
      · exact ⟨HX.out, HY.out⟩
      clear hK K
      try simp only [Act.put, List.setIfInBounds_toArray, List.set_cons_zero, List.set_cons_succ]
      refine wpAnyH_ready (rs := [3, 6]) (by kernel_rfl) (by simp) ?_
      refine AllReadyH.cons (o := ({ dst := some 14, op := Op.call { callee := Callee.value (Operand.func 10), args := #[Operand.tmp 13], argTypes := #[23] }, type := 34, pos := "law.go:30", after := #[{ on := 2, ground := Ground.data }, { on := 1, ground := Ground.chain }], guard := none } : Oper)) rfl (fun K hK => ?_) ?_
      · go_simp
        go_at_call 10
        refine (of_to b0 b1 b2 b3 HC0.out HC1.out HC2.out HC3.out _).mono ?_
        rintro e Wc2 ⟨⟨SB, rfl, hSB⟩, hb1⟩
        have HSB := Lib.hid hSB
        clear hSB
        replace HX := Lib.hid (HX.out.below hb1 HX.out.2.2)
        replace HY := Lib.hid (HY.out.below hb1 HY.out.2.2)
        replace HB := Lib.hid (HB.out.trans (hb1.mono HB.out.size))
        replace HZ := Lib.hid (HZ.out.below hb1 HZ.out.2.2)
        clear hb1 hHeld
        dsimp only
        refine hK.out _ _ ?_ (fun hHeld => ?_)
        · exact ⟨HX.out, HY.out⟩
        clear hK K
        try simp only [Act.put, List.setIfInBounds_toArray, List.set_cons_zero, List.set_cons_succ]
        refine wpAnyH_ready (rs := [4, 6]) (by kernel_rfl) (by simp) ?_
        refine AllReadyH.cons (o := ({ dst := some 15, op := Op.call { callee := Callee.value (Operand.func 11), args := #[Operand.tmp 12, Operand.tmp 14], argTypes := #[34, 34] }, type := 34, pos := "law.go:30", after := #[{ on := 1, ground := Ground.data }, { on := 3, ground := Ground.data }, { on := 3, ground := Ground.chain }], guard := none } : Oper)) rfl (fun K hK => ?_) ?_
        · go_simp
          go_at_call 11
          refine (plus_to SA SB (sums4 a0 a1 a2 a3) (sums4 b0 b1 b2 b3) 131072 131072 LAB.out HSA.out HSB.out HPA.out HPB.out _).mono ?_
          rintro e Wc3 ⟨⟨SC, rfl, hSC⟩, hb1⟩
          have HSC := Lib.hid (HSC0.out _ hSC)
          clear hSC
          replace HX := Lib.hid (HX.out.below hb1 HX.out.2.2)
          replace HY := Lib.hid (HY.out.below hb1 HY.out.2.2)
          replace HB := Lib.hid (HB.out.trans (hb1.mono HB.out.size))
          replace HZ := Lib.hid (HZ.out.below hb1 HZ.out.2.2)
          clear hb1 hHeld
          dsimp only
          refine hK.out _ _ ?_ (fun hHeld => ?_)
          · exact ⟨HX.out, HY.out⟩
          clear hK K
          try simp only [Act.put, List.setIfInBounds_toArray, List.set_cons_zero, List.set_cons_succ]
          refine wpAnyH_ready (rs := [5, 6]) (by kernel_rfl) (by simp) ?_
          refine AllReadyH.cons (o := ({ dst := some 16, op := Op.call { callee := Callee.value (Operand.func 9), args := #[Operand.tmp 15], argTypes := #[34] }, type := 31, pos := "law.go:30", after := #[{ on := 4, ground := Ground.data }, { on := 4, ground := Ground.chain }], guard := none } : Oper)) rfl (fun K hK => ?_) ?_
          · go_simp
            go_at_call 9
            refine (back_to SC PC BC L48.out HSC.out HPC.out L HL.out _).mono ?_
            rintro e Wc4 ⟨rfl, hb1⟩
            replace HX := Lib.hid (HX.out.below hb1 HX.out.2.2)
            replace HY := Lib.hid (HY.out.below hb1 HY.out.2.2)
            replace HB := Lib.hid (HB.out.trans (hb1.mono HB.out.size))
            replace HZ := Lib.hid (HZ.out.below hb1 HZ.out.2.2)
            clear hb1 hHeld
            dsimp only
            refine hK.out _ _ ?_ (fun hHeld => ?_)
            · exact ⟨HX.out, HY.out⟩
            clear hK K
            try simp only [Act.put, List.setIfInBounds_toArray, List.set_cons_zero, List.set_cons_succ]
            refine wpAnyH_ready (rs := [6]) (by kernel_rfl) (by simp) ?_
            refine AllReadyH.cons (o := ({ dst := some 6, op := Op.alloc 31, type := 0, pos := "law.go:30", after := #[], guard := none } : Oper)) rfl (fun K hK => ?_) (AllReadyH.nil)
            go_simp
            have hal := (Below.refl Wc4.heap.size Wc4).alloc (Nat.le_refl _) (.cells #[.int .i64 0, .int .i64 0, .int .i64 0, .int .i64 0] 31)
            have HG := Lib.hid (Four.new Wc4 (.int .i64 0) 31)
            have HGW := Lib.hid HB.out.size
            have HNX := Lib.hid (Nat.ne_of_lt HX.out.2.2)
            have HNY := Lib.hid (Nat.ne_of_lt HY.out.2.2)
            replace HX := Lib.hid (HX.out.below hal HX.out.2.2)
            replace HY := Lib.hid (HY.out.below hal HY.out.2.2)
            replace HB := Lib.hid (HB.out.alloc HB.out.size (.cells #[.int .i64 0, .int .i64 0, .int .i64 0, .int .i64 0] 31))
            have HNHZ := Lib.hid (Nat.ne_of_lt HZ.out.2.2)
            replace HZ := Lib.hid (HZ.out.below hal HZ.out.2.2)
            clear hal hHeld
            refine hK.out _ _ ?_ (fun hHeld => ?_)
            · exact ⟨HX.out, HY.out⟩
            clear hK K
            try simp only [Act.put, List.setIfInBounds_toArray, List.set_cons_zero, List.set_cons_succ]
            refine wpAnyH_ready (rs := [7]) (by kernel_rfl) (by simp) ?_
            refine AllReadyH.cons (o := ({ dst := none, op := Op.store 31 (Operand.tmp 6) (Operand.tmp 16), type := 0, pos := "law.go:30", after := #[{ on := 6, ground := Ground.data }, { on := 5, ground := Ground.data }, { on := 5, ground := Ground.chain }, { on := 0, ground := Ground.phase }, { on := 1, ground := Ground.phase }, { on := 2, ground := Ground.phase }, { on := 3, ground := Ground.phase }, { on := 4, ground := Ground.phase }, { on := 5, ground := Ground.phase }, { on := 6, ground := Ground.phase }], guard := none } : Oper)) rfl (fun K hK => ?_) (AllReadyH.nil)
            simp only [agi]
            refine Eq.mpr (if_pos (by kernel_rfl)) ?_
            refine wp_store_mid 31 _ _ rfl Wc4.heap.size 0 #[.int .i64 (L 0), .int .i64 (L 1), .int .i64 (L 2), .int .i64 (L 3)] rfl rfl (HG.out.there) (by kernel_rfl) (one4 _ _ _ _) ?_
            change K _ (CFour.set4 (Wc4.heap.size) (fun i => Value.int .i64 (L i)) ((Wc4.alloc (.cells #[.int .i64 0, .int .i64 0, .int .i64 0, .int .i64 0] 31))))
            have HGf := Lib.hid (HG.out.set4 (fun i => Value.int .i64 (L i)))
            replace HX := Lib.hid (HX.out.oth4 (g' := Wc4.heap.size) (fun i => Value.int .i64 (L i)) HNX.out)
            replace HY := Lib.hid (HY.out.oth4 (g' := Wc4.heap.size) (fun i => Value.int .i64 (L i)) HNY.out)
            replace HB := Lib.hid (below_set4 HB.out HGW.out (fun i => Value.int .i64 (L i)))
            replace HZ := Lib.hid (HZ.out.oth4 (g' := Wc4.heap.size) (fun i => Value.int .i64 (L i)) HNHZ.out)
            clear hHeld
            generalize CFour.set4 (Wc4.heap.size) (fun i => Value.int .i64 (L i)) ((Wc4.alloc (.cells #[.int .i64 0, .int .i64 0, .int .i64 0, .int .i64 0] 31))) = W9 at HGf HX HY HB HZ ⊢
            refine hK.out _ _ ?_ (fun hHeld => ?_)
            · exact ⟨HX.out, HY.out⟩
            clear hK K
            try simp only [Act.put]
            refine wpAnyH_done (by kernel_rfl) ?_ _
            go_wp2_with fail
            go_meet
            exact ⟨_, rfl, HGf, HX, HY, HZ, HB⟩
          refine AllReadyH.cons (o := ({ dst := some 6, op := Op.alloc 31, type := 0, pos := "law.go:30", after := #[], guard := none } : Oper)) rfl (fun K hK => ?_) ?_
          · go_simp
            have hal := (Below.refl Wc3.heap.size Wc3).alloc (Nat.le_refl _) (.cells #[.int .i64 0, .int .i64 0, .int .i64 0, .int .i64 0] 31)
            have HG := Lib.hid (Four.new Wc3 (.int .i64 0) 31)
            have HGW := Lib.hid HB.out.size
            have HNX := Lib.hid (Nat.ne_of_lt HX.out.2.2)
            have HNY := Lib.hid (Nat.ne_of_lt HY.out.2.2)
            replace HX := Lib.hid (HX.out.below hal HX.out.2.2)
            replace HY := Lib.hid (HY.out.below hal HY.out.2.2)
            replace HB := Lib.hid (HB.out.alloc HB.out.size (.cells #[.int .i64 0, .int .i64 0, .int .i64 0, .int .i64 0] 31))
            have HNHZ := Lib.hid (Nat.ne_of_lt HZ.out.2.2)
            replace HZ := Lib.hid (HZ.out.below hal HZ.out.2.2)
            clear hal hHeld
            refine hK.out _ _ ?_ (fun hHeld => ?_)
            · exact ⟨HX.out, HY.out⟩
            clear hK K
            try simp only [Act.put, List.setIfInBounds_toArray, List.set_cons_zero, List.set_cons_succ]
            refine wpAnyH_ready (rs := [5]) (by kernel_rfl) (by simp) ?_
            refine AllReadyH.cons (o := ({ dst := some 16, op := Op.call { callee := Callee.value (Operand.func 9), args := #[Operand.tmp 15], argTypes := #[34] }, type := 31, pos := "law.go:30", after := #[{ on := 4, ground := Ground.data }, { on := 4, ground := Ground.chain }], guard := none } : Oper)) rfl (fun K hK => ?_) (AllReadyH.nil)
            go_simp
            go_at_call 9
            refine (back_to SC PC BC L48.out HSC.out HPC.out L HL.out _).mono ?_
            rintro e Wc5 ⟨rfl, hb1⟩
            replace HX := Lib.hid (HX.out.below hb1 HX.out.2.2)
            replace HY := Lib.hid (HY.out.below hb1 HY.out.2.2)
            replace HB := Lib.hid (HB.out.trans (hb1.mono HB.out.size))
            replace HZ := Lib.hid (HZ.out.below hb1 HZ.out.2.2)
            replace HG := Lib.hid (HG.out.below hb1 HG.out.2.2)
            clear hb1 hHeld
            dsimp only
            refine hK.out _ _ ?_ (fun hHeld => ?_)
            · exact ⟨HX.out, HY.out⟩
            clear hK K
            try simp only [Act.put, List.setIfInBounds_toArray, List.set_cons_zero, List.set_cons_succ]
            refine wpAnyH_ready (rs := [7]) (by kernel_rfl) (by simp) ?_
            refine AllReadyH.cons (o := ({ dst := none, op := Op.store 31 (Operand.tmp 6) (Operand.tmp 16), type := 0, pos := "law.go:30", after := #[{ on := 6, ground := Ground.data }, { on := 5, ground := Ground.data }, { on := 5, ground := Ground.chain }, { on := 0, ground := Ground.phase }, { on := 1, ground := Ground.phase }, { on := 2, ground := Ground.phase }, { on := 3, ground := Ground.phase }, { on := 4, ground := Ground.phase }, { on := 5, ground := Ground.phase }, { on := 6, ground := Ground.phase }], guard := none } : Oper)) rfl (fun K hK => ?_) (AllReadyH.nil)
            simp only [agi]
            refine Eq.mpr (if_pos (by kernel_rfl)) ?_
            refine wp_store_mid 31 _ _ rfl Wc3.heap.size 0 #[.int .i64 (L 0), .int .i64 (L 1), .int .i64 (L 2), .int .i64 (L 3)] rfl rfl (HG.out.there) (by kernel_rfl) (one4 _ _ _ _) ?_
            change K _ (CFour.set4 (Wc3.heap.size) (fun i => Value.int .i64 (L i)) (Wc5))
            have HGf := Lib.hid (HG.out.set4 (fun i => Value.int .i64 (L i)))
            replace HX := Lib.hid (HX.out.oth4 (g' := Wc3.heap.size) (fun i => Value.int .i64 (L i)) HNX.out)
            replace HY := Lib.hid (HY.out.oth4 (g' := Wc3.heap.size) (fun i => Value.int .i64 (L i)) HNY.out)
            replace HB := Lib.hid (below_set4 HB.out HGW.out (fun i => Value.int .i64 (L i)))
            replace HZ := Lib.hid (HZ.out.oth4 (g' := Wc3.heap.size) (fun i => Value.int .i64 (L i)) HNHZ.out)
            clear hHeld
            generalize CFour.set4 (Wc3.heap.size) (fun i => Value.int .i64 (L i)) (Wc5) = W9 at HGf HX HY HB HZ ⊢
            refine hK.out _ _ ?_ (fun hHeld => ?_)
            · exact ⟨HX.out, HY.out⟩
            clear hK K
            try simp only [Act.put]
            refine wpAnyH_done (by kernel_rfl) ?_ _
            go_wp2_with fail
            go_meet
            exact ⟨_, rfl, HGf, HX, HY, HZ, HB⟩
          exact AllReadyH.nil
        refine AllReadyH.cons (o := ({ dst := some 6, op := Op.alloc 31, type := 0, pos := "law.go:30", after := #[], guard := none } : Oper)) rfl (fun K hK => ?_) ?_
        · go_simp
          have hal := (Below.refl Wc2.heap.size Wc2).alloc (Nat.le_refl _) (.cells #[.int .i64 0, .int .i64 0, .int .i64 0, .int .i64 0] 31)
          have HG := Lib.hid (Four.new Wc2 (.int .i64 0) 31)
          have HGW := Lib.hid HB.out.size
          have HNX := Lib.hid (Nat.ne_of_lt HX.out.2.2)
          have HNY := Lib.hid (Nat.ne_of_lt HY.out.2.2)
          replace HX := Lib.hid (HX.out.below hal HX.out.2.2)
          replace HY := Lib.hid (HY.out.below hal HY.out.2.2)
          replace HB := Lib.hid (HB.out.alloc HB.out.size (.cells #[.int .i64 0, .int .i64 0, .int .i64 0, .int .i64 0] 31))
          have HNHZ := Lib.hid (Nat.ne_of_lt HZ.out.2.2)
          replace HZ := Lib.hid (HZ.out.below hal HZ.out.2.2)
          clear hal hHeld
          refine hK.out _ _ ?_ (fun hHeld => ?_)
          · exact ⟨HX.out, HY.out⟩
          clear hK K
          try simp only [Act.put, List.setIfInBounds_toArray, List.set_cons_zero, List.set_cons_succ]
          refine wpAnyH_ready (rs := [4]) (by kernel_rfl) (by simp) ?_
          refine AllReadyH.cons (o := ({ dst := some 15, op := Op.call { callee := Callee.value (Operand.func 11), args := #[Operand.tmp 12, Operand.tmp 14], argTypes := #[34, 34] }, type := 34, pos := "law.go:30", after := #[{ on := 1, ground := Ground.data }, { on := 3, ground := Ground.data }, { on := 3, ground := Ground.chain }], guard := none } : Oper)) rfl (fun K hK => ?_) (AllReadyH.nil)
          go_simp
          go_at_call 11
          refine (plus_to SA SB (sums4 a0 a1 a2 a3) (sums4 b0 b1 b2 b3) 131072 131072 LAB.out HSA.out HSB.out HPA.out HPB.out _).mono ?_
          rintro e Wc6 ⟨⟨SC, rfl, hSC⟩, hb1⟩
          have HSC := Lib.hid (HSC0.out _ hSC)
          clear hSC
          replace HX := Lib.hid (HX.out.below hb1 HX.out.2.2)
          replace HY := Lib.hid (HY.out.below hb1 HY.out.2.2)
          replace HB := Lib.hid (HB.out.trans (hb1.mono HB.out.size))
          replace HZ := Lib.hid (HZ.out.below hb1 HZ.out.2.2)
          replace HG := Lib.hid (HG.out.below hb1 HG.out.2.2)
          clear hb1 hHeld
          dsimp only
          refine hK.out _ _ ?_ (fun hHeld => ?_)
          · exact ⟨HX.out, HY.out⟩
          clear hK K
          try simp only [Act.put, List.setIfInBounds_toArray, List.set_cons_zero, List.set_cons_succ]
          refine wpAnyH_ready (rs := [5]) (by kernel_rfl) (by simp) ?_
          refine AllReadyH.cons (o := ({ dst := some 16, op := Op.call { callee := Callee.value (Operand.func 9), args := #[Operand.tmp 15], argTypes := #[34] }, type := 31, pos := "law.go:30", after := #[{ on := 4, ground := Ground.data }, { on := 4, ground := Ground.chain }], guard := none } : Oper)) rfl (fun K hK => ?_) (AllReadyH.nil)
          go_simp
          go_at_call 9
          refine (back_to SC PC BC L48.out HSC.out HPC.out L HL.out _).mono ?_
          rintro e Wc7 ⟨rfl, hb1⟩
          replace HX := Lib.hid (HX.out.below hb1 HX.out.2.2)
          replace HY := Lib.hid (HY.out.below hb1 HY.out.2.2)
          replace HB := Lib.hid (HB.out.trans (hb1.mono HB.out.size))
          replace HZ := Lib.hid (HZ.out.below hb1 HZ.out.2.2)
          replace HG := Lib.hid (HG.out.below hb1 HG.out.2.2)
          clear hb1 hHeld
          dsimp only
          refine hK.out _ _ ?_ (fun hHeld => ?_)
          · exact ⟨HX.out, HY.out⟩
          clear hK K
          try simp only [Act.put, List.setIfInBounds_toArray, List.set_cons_zero, List.set_cons_succ]
          refine wpAnyH_ready (rs := [7]) (by kernel_rfl) (by simp) ?_
          refine AllReadyH.cons (o := ({ dst := none, op := Op.store 31 (Operand.tmp 6) (Operand.tmp 16), type := 0, pos := "law.go:30", after := #[{ on := 6, ground := Ground.data }, { on := 5, ground := Ground.data }, { on := 5, ground := Ground.chain }, { on := 0, ground := Ground.phase }, { on := 1, ground := Ground.phase }, { on := 2, ground := Ground.phase }, { on := 3, ground := Ground.phase }, { on := 4, ground := Ground.phase }, { on := 5, ground := Ground.phase }, { on := 6, ground := Ground.phase }], guard := none } : Oper)) rfl (fun K hK => ?_) (AllReadyH.nil)
          simp only [agi]
          refine Eq.mpr (if_pos (by kernel_rfl)) ?_
          refine wp_store_mid 31 _ _ rfl Wc2.heap.size 0 #[.int .i64 (L 0), .int .i64 (L 1), .int .i64 (L 2), .int .i64 (L 3)] rfl rfl (HG.out.there) (by kernel_rfl) (one4 _ _ _ _) ?_
          change K _ (CFour.set4 (Wc2.heap.size) (fun i => Value.int .i64 (L i)) (Wc7))
          have HGf := Lib.hid (HG.out.set4 (fun i => Value.int .i64 (L i)))
          replace HX := Lib.hid (HX.out.oth4 (g' := Wc2.heap.size) (fun i => Value.int .i64 (L i)) HNX.out)
          replace HY := Lib.hid (HY.out.oth4 (g' := Wc2.heap.size) (fun i => Value.int .i64 (L i)) HNY.out)
          replace HB := Lib.hid (below_set4 HB.out HGW.out (fun i => Value.int .i64 (L i)))
          replace HZ := Lib.hid (HZ.out.oth4 (g' := Wc2.heap.size) (fun i => Value.int .i64 (L i)) HNHZ.out)
          clear hHeld
          generalize CFour.set4 (Wc2.heap.size) (fun i => Value.int .i64 (L i)) (Wc7) = W9 at HGf HX HY HB HZ ⊢
          refine hK.out _ _ ?_ (fun hHeld => ?_)
          · exact ⟨HX.out, HY.out⟩
          clear hK K
          try simp only [Act.put]
          refine wpAnyH_done (by kernel_rfl) ?_ _
          go_wp2_with fail
          go_meet
          exact ⟨_, rfl, HGf, HX, HY, HZ, HB⟩
        exact AllReadyH.nil
      refine AllReadyH.cons (o := ({ dst := some 6, op := Op.alloc 31, type := 0, pos := "law.go:30", after := #[], guard := none } : Oper)) rfl (fun K hK => ?_) ?_
      · go_simp
        have hal := (Below.refl Wc1.heap.size Wc1).alloc (Nat.le_refl _) (.cells #[.int .i64 0, .int .i64 0, .int .i64 0, .int .i64 0] 31)
        have HG := Lib.hid (Four.new Wc1 (.int .i64 0) 31)
        have HGW := Lib.hid HB.out.size
        have HNX := Lib.hid (Nat.ne_of_lt HX.out.2.2)
        have HNY := Lib.hid (Nat.ne_of_lt HY.out.2.2)
        replace HX := Lib.hid (HX.out.below hal HX.out.2.2)
        replace HY := Lib.hid (HY.out.below hal HY.out.2.2)
        replace HB := Lib.hid (HB.out.alloc HB.out.size (.cells #[.int .i64 0, .int .i64 0, .int .i64 0, .int .i64 0] 31))
        have HNHZ := Lib.hid (Nat.ne_of_lt HZ.out.2.2)
        replace HZ := Lib.hid (HZ.out.below hal HZ.out.2.2)
        clear hal hHeld
        refine hK.out _ _ ?_ (fun hHeld => ?_)
        · exact ⟨HX.out, HY.out⟩
        clear hK K
        try simp only [Act.put, List.setIfInBounds_toArray, List.set_cons_zero, List.set_cons_succ]
        refine wpAnyH_ready (rs := [3]) (by kernel_rfl) (by simp) ?_
        refine AllReadyH.cons (o := ({ dst := some 14, op := Op.call { callee := Callee.value (Operand.func 10), args := #[Operand.tmp 13], argTypes := #[23] }, type := 34, pos := "law.go:30", after := #[{ on := 2, ground := Ground.data }, { on := 1, ground := Ground.chain }], guard := none } : Oper)) rfl (fun K hK => ?_) (AllReadyH.nil)
        go_simp
        go_at_call 10
        refine (of_to b0 b1 b2 b3 HC0.out HC1.out HC2.out HC3.out _).mono ?_
        rintro e Wc8 ⟨⟨SB, rfl, hSB⟩, hb1⟩
        have HSB := Lib.hid hSB
        clear hSB
        replace HX := Lib.hid (HX.out.below hb1 HX.out.2.2)
        replace HY := Lib.hid (HY.out.below hb1 HY.out.2.2)
        replace HB := Lib.hid (HB.out.trans (hb1.mono HB.out.size))
        replace HZ := Lib.hid (HZ.out.below hb1 HZ.out.2.2)
        replace HG := Lib.hid (HG.out.below hb1 HG.out.2.2)
        clear hb1 hHeld
        dsimp only
        refine hK.out _ _ ?_ (fun hHeld => ?_)
        · exact ⟨HX.out, HY.out⟩
        clear hK K
        try simp only [Act.put, List.setIfInBounds_toArray, List.set_cons_zero, List.set_cons_succ]
        refine wpAnyH_ready (rs := [4]) (by kernel_rfl) (by simp) ?_
        refine AllReadyH.cons (o := ({ dst := some 15, op := Op.call { callee := Callee.value (Operand.func 11), args := #[Operand.tmp 12, Operand.tmp 14], argTypes := #[34, 34] }, type := 34, pos := "law.go:30", after := #[{ on := 1, ground := Ground.data }, { on := 3, ground := Ground.data }, { on := 3, ground := Ground.chain }], guard := none } : Oper)) rfl (fun K hK => ?_) (AllReadyH.nil)
        go_simp
        go_at_call 11
        refine (plus_to SA SB (sums4 a0 a1 a2 a3) (sums4 b0 b1 b2 b3) 131072 131072 LAB.out HSA.out HSB.out HPA.out HPB.out _).mono ?_
        rintro e Wc9 ⟨⟨SC, rfl, hSC⟩, hb1⟩
        have HSC := Lib.hid (HSC0.out _ hSC)
        clear hSC
        replace HX := Lib.hid (HX.out.below hb1 HX.out.2.2)
        replace HY := Lib.hid (HY.out.below hb1 HY.out.2.2)
        replace HB := Lib.hid (HB.out.trans (hb1.mono HB.out.size))
        replace HZ := Lib.hid (HZ.out.below hb1 HZ.out.2.2)
        replace HG := Lib.hid (HG.out.below hb1 HG.out.2.2)
        clear hb1 hHeld
        dsimp only
        refine hK.out _ _ ?_ (fun hHeld => ?_)
        · exact ⟨HX.out, HY.out⟩
        clear hK K
        try simp only [Act.put, List.setIfInBounds_toArray, List.set_cons_zero, List.set_cons_succ]
        refine wpAnyH_ready (rs := [5]) (by kernel_rfl) (by simp) ?_
        refine AllReadyH.cons (o := ({ dst := some 16, op := Op.call { callee := Callee.value (Operand.func 9), args := #[Operand.tmp 15], argTypes := #[34] }, type := 31, pos := "law.go:30", after := #[{ on := 4, ground := Ground.data }, { on := 4, ground := Ground.chain }], guard := none } : Oper)) rfl (fun K hK => ?_) (AllReadyH.nil)
        go_simp
        go_at_call 9
        refine (back_to SC PC BC L48.out HSC.out HPC.out L HL.out _).mono ?_
        rintro e Wc10 ⟨rfl, hb1⟩
        replace HX := Lib.hid (HX.out.below hb1 HX.out.2.2)
        replace HY := Lib.hid (HY.out.below hb1 HY.out.2.2)
        replace HB := Lib.hid (HB.out.trans (hb1.mono HB.out.size))
        replace HZ := Lib.hid (HZ.out.below hb1 HZ.out.2.2)
        replace HG := Lib.hid (HG.out.below hb1 HG.out.2.2)
        clear hb1 hHeld
        dsimp only
        refine hK.out _ _ ?_ (fun hHeld => ?_)
        · exact ⟨HX.out, HY.out⟩
        clear hK K
        try simp only [Act.put, List.setIfInBounds_toArray, List.set_cons_zero, List.set_cons_succ]
        refine wpAnyH_ready (rs := [7]) (by kernel_rfl) (by simp) ?_
        refine AllReadyH.cons (o := ({ dst := none, op := Op.store 31 (Operand.tmp 6) (Operand.tmp 16), type := 0, pos := "law.go:30", after := #[{ on := 6, ground := Ground.data }, { on := 5, ground := Ground.data }, { on := 5, ground := Ground.chain }, { on := 0, ground := Ground.phase }, { on := 1, ground := Ground.phase }, { on := 2, ground := Ground.phase }, { on := 3, ground := Ground.phase }, { on := 4, ground := Ground.phase }, { on := 5, ground := Ground.phase }, { on := 6, ground := Ground.phase }], guard := none } : Oper)) rfl (fun K hK => ?_) (AllReadyH.nil)
        simp only [agi]
        refine Eq.mpr (if_pos (by kernel_rfl)) ?_
        refine wp_store_mid 31 _ _ rfl Wc1.heap.size 0 #[.int .i64 (L 0), .int .i64 (L 1), .int .i64 (L 2), .int .i64 (L 3)] rfl rfl (HG.out.there) (by kernel_rfl) (one4 _ _ _ _) ?_
        change K _ (CFour.set4 (Wc1.heap.size) (fun i => Value.int .i64 (L i)) (Wc10))
        have HGf := Lib.hid (HG.out.set4 (fun i => Value.int .i64 (L i)))
        replace HX := Lib.hid (HX.out.oth4 (g' := Wc1.heap.size) (fun i => Value.int .i64 (L i)) HNX.out)
        replace HY := Lib.hid (HY.out.oth4 (g' := Wc1.heap.size) (fun i => Value.int .i64 (L i)) HNY.out)
        replace HB := Lib.hid (below_set4 HB.out HGW.out (fun i => Value.int .i64 (L i)))
        replace HZ := Lib.hid (HZ.out.oth4 (g' := Wc1.heap.size) (fun i => Value.int .i64 (L i)) HNHZ.out)
        clear hHeld
        generalize CFour.set4 (Wc1.heap.size) (fun i => Value.int .i64 (L i)) (Wc10) = W9 at HGf HX HY HB HZ ⊢
        refine hK.out _ _ ?_ (fun hHeld => ?_)
        · exact ⟨HX.out, HY.out⟩
        clear hK K
        try simp only [Act.put]
        refine wpAnyH_done (by kernel_rfl) ?_ _
        go_wp2_with fail
        go_meet
        exact ⟨_, rfl, HGf, HX, HY, HZ, HB⟩
      exact AllReadyH.nil
    refine AllReadyH.cons (o := ({ dst := some 6, op := Op.alloc 31, type := 0, pos := "law.go:30", after := #[], guard := none } : Oper)) rfl (fun K hK => ?_) ?_
    · go_simp
      have hal := (Below.refl Wd.heap.size Wd).alloc (Nat.le_refl _) (.cells #[.int .i64 0, .int .i64 0, .int .i64 0, .int .i64 0] 31)
      have HG := Lib.hid (Four.new Wd (.int .i64 0) 31)
      have HGW := Lib.hid HB.out.size
      have HNX := Lib.hid (Nat.ne_of_lt HX.out.2.2)
      have HNY := Lib.hid (Nat.ne_of_lt HY.out.2.2)
      replace HX := Lib.hid (HX.out.below hal HX.out.2.2)
      replace HY := Lib.hid (HY.out.below hal HY.out.2.2)
      replace HB := Lib.hid (HB.out.alloc HB.out.size (.cells #[.int .i64 0, .int .i64 0, .int .i64 0, .int .i64 0] 31))
      have HNHZ := Lib.hid (Nat.ne_of_lt HZ.out.2.2)
      replace HZ := Lib.hid (HZ.out.below hal HZ.out.2.2)
      clear hal hHeld
      refine hK.out _ _ ?_ (fun hHeld => ?_)
      · exact ⟨HX.out, HY.out⟩
      clear hK K
      try simp only [Act.put, List.setIfInBounds_toArray, List.set_cons_zero, List.set_cons_succ]
      refine wpAnyH_ready (rs := [1]) (by kernel_rfl) (by simp) ?_
      refine AllReadyH.cons (o := ({ dst := some 12, op := Op.call { callee := Callee.value (Operand.func 10), args := #[Operand.tmp 11], argTypes := #[23] }, type := 34, pos := "law.go:30", after := #[{ on := 0, ground := Ground.data }], guard := none } : Oper)) rfl (fun K hK => ?_) (AllReadyH.nil)
      go_simp
      go_at_call 10
      refine (of_to a0 a1 a2 a3 HA0.out HA1.out HA2.out HA3.out _).mono ?_
      rintro e Wc11 ⟨⟨SA, rfl, hSA⟩, hb1⟩
      have HSA := Lib.hid hSA
      clear hSA
      replace HX := Lib.hid (HX.out.below hb1 HX.out.2.2)
      replace HY := Lib.hid (HY.out.below hb1 HY.out.2.2)
      replace HB := Lib.hid (HB.out.trans (hb1.mono HB.out.size))
      replace HZ := Lib.hid (HZ.out.below hb1 HZ.out.2.2)
      replace HG := Lib.hid (HG.out.below hb1 HG.out.2.2)
      clear hb1 hHeld
      dsimp only
      refine hK.out _ _ ?_ (fun hHeld => ?_)
      · exact ⟨HX.out, HY.out⟩
      clear hK K
      try simp only [Act.put, List.setIfInBounds_toArray, List.set_cons_zero, List.set_cons_succ]
      refine wpAnyH_ready (rs := [3]) (by kernel_rfl) (by simp) ?_
      refine AllReadyH.cons (o := ({ dst := some 14, op := Op.call { callee := Callee.value (Operand.func 10), args := #[Operand.tmp 13], argTypes := #[23] }, type := 34, pos := "law.go:30", after := #[{ on := 2, ground := Ground.data }, { on := 1, ground := Ground.chain }], guard := none } : Oper)) rfl (fun K hK => ?_) (AllReadyH.nil)
      go_simp
      go_at_call 10
      refine (of_to b0 b1 b2 b3 HC0.out HC1.out HC2.out HC3.out _).mono ?_
      rintro e Wc12 ⟨⟨SB, rfl, hSB⟩, hb1⟩
      have HSB := Lib.hid hSB
      clear hSB
      replace HX := Lib.hid (HX.out.below hb1 HX.out.2.2)
      replace HY := Lib.hid (HY.out.below hb1 HY.out.2.2)
      replace HB := Lib.hid (HB.out.trans (hb1.mono HB.out.size))
      replace HZ := Lib.hid (HZ.out.below hb1 HZ.out.2.2)
      replace HG := Lib.hid (HG.out.below hb1 HG.out.2.2)
      clear hb1 hHeld
      dsimp only
      refine hK.out _ _ ?_ (fun hHeld => ?_)
      · exact ⟨HX.out, HY.out⟩
      clear hK K
      try simp only [Act.put, List.setIfInBounds_toArray, List.set_cons_zero, List.set_cons_succ]
      refine wpAnyH_ready (rs := [4]) (by kernel_rfl) (by simp) ?_
      refine AllReadyH.cons (o := ({ dst := some 15, op := Op.call { callee := Callee.value (Operand.func 11), args := #[Operand.tmp 12, Operand.tmp 14], argTypes := #[34, 34] }, type := 34, pos := "law.go:30", after := #[{ on := 1, ground := Ground.data }, { on := 3, ground := Ground.data }, { on := 3, ground := Ground.chain }], guard := none } : Oper)) rfl (fun K hK => ?_) (AllReadyH.nil)
      go_simp
      go_at_call 11
      refine (plus_to SA SB (sums4 a0 a1 a2 a3) (sums4 b0 b1 b2 b3) 131072 131072 LAB.out HSA.out HSB.out HPA.out HPB.out _).mono ?_
      rintro e Wc13 ⟨⟨SC, rfl, hSC⟩, hb1⟩
      have HSC := Lib.hid (HSC0.out _ hSC)
      clear hSC
      replace HX := Lib.hid (HX.out.below hb1 HX.out.2.2)
      replace HY := Lib.hid (HY.out.below hb1 HY.out.2.2)
      replace HB := Lib.hid (HB.out.trans (hb1.mono HB.out.size))
      replace HZ := Lib.hid (HZ.out.below hb1 HZ.out.2.2)
      replace HG := Lib.hid (HG.out.below hb1 HG.out.2.2)
      clear hb1 hHeld
      dsimp only
      refine hK.out _ _ ?_ (fun hHeld => ?_)
      · exact ⟨HX.out, HY.out⟩
      clear hK K
      try simp only [Act.put, List.setIfInBounds_toArray, List.set_cons_zero, List.set_cons_succ]
      refine wpAnyH_ready (rs := [5]) (by kernel_rfl) (by simp) ?_
      refine AllReadyH.cons (o := ({ dst := some 16, op := Op.call { callee := Callee.value (Operand.func 9), args := #[Operand.tmp 15], argTypes := #[34] }, type := 31, pos := "law.go:30", after := #[{ on := 4, ground := Ground.data }, { on := 4, ground := Ground.chain }], guard := none } : Oper)) rfl (fun K hK => ?_) (AllReadyH.nil)
      go_simp
      go_at_call 9
      refine (back_to SC PC BC L48.out HSC.out HPC.out L HL.out _).mono ?_
      rintro e Wc14 ⟨rfl, hb1⟩
      replace HX := Lib.hid (HX.out.below hb1 HX.out.2.2)
      replace HY := Lib.hid (HY.out.below hb1 HY.out.2.2)
      replace HB := Lib.hid (HB.out.trans (hb1.mono HB.out.size))
      replace HZ := Lib.hid (HZ.out.below hb1 HZ.out.2.2)
      replace HG := Lib.hid (HG.out.below hb1 HG.out.2.2)
      clear hb1 hHeld
      dsimp only
      refine hK.out _ _ ?_ (fun hHeld => ?_)
      · exact ⟨HX.out, HY.out⟩
      clear hK K
      try simp only [Act.put, List.setIfInBounds_toArray, List.set_cons_zero, List.set_cons_succ]
      refine wpAnyH_ready (rs := [7]) (by kernel_rfl) (by simp) ?_
      refine AllReadyH.cons (o := ({ dst := none, op := Op.store 31 (Operand.tmp 6) (Operand.tmp 16), type := 0, pos := "law.go:30", after := #[{ on := 6, ground := Ground.data }, { on := 5, ground := Ground.data }, { on := 5, ground := Ground.chain }, { on := 0, ground := Ground.phase }, { on := 1, ground := Ground.phase }, { on := 2, ground := Ground.phase }, { on := 3, ground := Ground.phase }, { on := 4, ground := Ground.phase }, { on := 5, ground := Ground.phase }, { on := 6, ground := Ground.phase }], guard := none } : Oper)) rfl (fun K hK => ?_) (AllReadyH.nil)
      simp only [agi]
      refine Eq.mpr (if_pos (by kernel_rfl)) ?_
      refine wp_store_mid 31 _ _ rfl Wd.heap.size 0 #[.int .i64 (L 0), .int .i64 (L 1), .int .i64 (L 2), .int .i64 (L 3)] rfl rfl (HG.out.there) (by kernel_rfl) (one4 _ _ _ _) ?_
      change K _ (CFour.set4 (Wd.heap.size) (fun i => Value.int .i64 (L i)) (Wc14))
      have HGf := Lib.hid (HG.out.set4 (fun i => Value.int .i64 (L i)))
      replace HX := Lib.hid (HX.out.oth4 (g' := Wd.heap.size) (fun i => Value.int .i64 (L i)) HNX.out)
      replace HY := Lib.hid (HY.out.oth4 (g' := Wd.heap.size) (fun i => Value.int .i64 (L i)) HNY.out)
      replace HB := Lib.hid (below_set4 HB.out HGW.out (fun i => Value.int .i64 (L i)))
      replace HZ := Lib.hid (HZ.out.oth4 (g' := Wd.heap.size) (fun i => Value.int .i64 (L i)) HNHZ.out)
      clear hHeld
      generalize CFour.set4 (Wd.heap.size) (fun i => Value.int .i64 (L i)) (Wc14) = W9 at HGf HX HY HB HZ ⊢
      refine hK.out _ _ ?_ (fun hHeld => ?_)
      · exact ⟨HX.out, HY.out⟩
      clear hK K
      try simp only [Act.put]
      refine wpAnyH_done (by kernel_rfl) ?_ _
      go_wp2_with fail
      go_meet
      exact ⟨_, rfl, HGf, HX, HY, HZ, HB⟩
    exact AllReadyH.nil
  case rest =>
    obtain ⟨g, rfl, HG, HX1, HY1, HZ1, HB1⟩ := hcut
    clear HX HY HB HZ
    go_wp2_with fail
    go_loopw [7] (fun u wr => ∃ k : Nat, k ≤ 4 ∧ u = .int .i64 k ∧ Hid (Four g (fun i => .int .i64 (L i)) wr) ∧ Hid (Four w.heap.size (fun i => .int .i16 (l4 a0 a1 a2 a3 i)) wr) ∧ Hid (Four (w.heap.size + 1) (fun i => .int .i16 (l4 b0 b1 b2 b3 i)) wr) ∧ Hid (Four w2.heap.size (fun i => .int .i64 (LA i)) wr) ∧ Hid (Below w.heap.size w wr)) (fun u _ => 4 - (intOf u).toNat)
    case atStart => exact ⟨0, by omega, rfl, HG, HX1, HY1, HZ1, HB1⟩
    case round =>
      obtain ⟨k, hk, rfl, HG, HX, HY, HZ, HB⟩ := hrel
      by_cases hlt : k < 4
      · have ba0 := HA0.out
        have ba1 := HA1.out
        have ba2 := HA2.out
        have ba3 := HA3.out
        have bb0 := HC0.out
        have bb1 := HC1.out
        have bb2 := HC2.out
        have bb3 := HC3.out
        unfold In16 at ba0 ba1 ba2 ba3 bb0 bb1 bb2 bb3
        obtain ⟨p0, p1⟩ := ba0
        obtain ⟨p2, p3⟩ := ba1
        obtain ⟨p4, p5⟩ := ba2
        obtain ⟨p6, p7⟩ := ba3
        obtain ⟨q0, q1⟩ := bb0
        obtain ⟨q2, q3⟩ := bb1
        obtain ⟨q4, q5⟩ := bb2
        obtain ⟨q6, q7⟩ := bb3
        obtain ⟨ea0, ea1, ea2, ea3⟩ := HE0.out
        obtain ⟨es0, es1, es2, es3⟩ := HE1.out
        obtain rfl | rfl | rfl | rfl := lt4 hlt
        all_goals clear hlt hk
        · have c0 := HG.out.1 0 (by decide)
          have c1 := HX.out.1 0 (by decide)
          have c2 := HY.out.1 0 (by decide)
          have c3 := HZ.out.1 0 (by decide)
          simp only [l4, es0, ea0] at c0 c1 c2 c3
          clear es0 es1 es2 es3 ea0 ea1 ea2 ea3
          go_wp2_with fail
          go_quiet (fail)
          go_wp2_with fail
          go_roundw
          case rel => exact ⟨0 + 1, by omega, by go_num, Lib.hid HG.out, Lib.hid HX.out, Lib.hid HY.out, Lib.hid HZ.out, Lib.hid (Kit.below_drewN HB.out _)⟩
          case measure => simp [intOf]
        · have c0 := HG.out.1 1 (by decide)
          have c1 := HX.out.1 1 (by decide)
          have c2 := HY.out.1 1 (by decide)
          have c3 := HZ.out.1 1 (by decide)
          simp only [l4, es1, ea1] at c0 c1 c2 c3
          clear es0 es1 es2 es3 ea0 ea1 ea2 ea3
          go_wp2_with fail
          go_quiet (fail)
          go_wp2_with fail
          go_roundw
          case rel => exact ⟨1 + 1, by omega, by go_num, Lib.hid HG.out, Lib.hid HX.out, Lib.hid HY.out, Lib.hid HZ.out, Lib.hid (Kit.below_drewN HB.out _)⟩
          case measure => simp [intOf]
        · have c0 := HG.out.1 2 (by decide)
          have c1 := HX.out.1 2 (by decide)
          have c2 := HY.out.1 2 (by decide)
          have c3 := HZ.out.1 2 (by decide)
          simp only [l4, es2, ea2] at c0 c1 c2 c3
          clear es0 es1 es2 es3 ea0 ea1 ea2 ea3
          go_wp2_with fail
          go_quiet (fail)
          go_wp2_with fail
          go_roundw
          case rel => exact ⟨2 + 1, by omega, by go_num, Lib.hid HG.out, Lib.hid HX.out, Lib.hid HY.out, Lib.hid HZ.out, Lib.hid (Kit.below_drewN HB.out _)⟩
          case measure => simp [intOf]
        · have c0 := HG.out.1 3 (by decide)
          have c1 := HX.out.1 3 (by decide)
          have c2 := HY.out.1 3 (by decide)
          have c3 := HZ.out.1 3 (by decide)
          simp only [l4, es3, ea3] at c0 c1 c2 c3
          clear es0 es1 es2 es3 ea0 ea1 ea2 ea3
          go_wp2_with fail
          go_quiet (fail)
          go_wp2_with fail
          go_roundw
          case rel => exact ⟨3 + 1, by omega, by go_num, Lib.hid HG.out, Lib.hid HX.out, Lib.hid HY.out, Lib.hid HZ.out, Lib.hid (Kit.below_drewN HB.out _)⟩
          case measure => simp [intOf]
      · have hk4 : k = 4 := by omega
        subst hk4
        clear hlt hk
        go_wp2_with (go_at_call 8; ((with_reducible refine (known14 _).mono ?_); rintro e3 w3 ⟨rfl, hb3⟩; have hB3 := Lib.hid (HB.out.trans (hb3.mono HB.out.size)); clear hb3))
        go_ret
        exact ⟨rfl, hB3.out⟩
/-! ### the frame: written by program -/
theorem own : ownKnob Try.prog.godebug = none := by kernel_rfl
theorem laid : laidOutB Try.prog = true := by kernel_rfl
theorem contract {H : Type} {enc : TypeId × Value → H} {W : World} {base : Nat} {args : Array Value} {ds gs : List (DataW H)} {before : List MemPlace}
    (hval0 : ∀ (j : Nat) t v, Try.f4.params[j]? = some t → args[j]? = some v → Value.okWide Try.prog W .any base t v)
    (hW : DataW.Whole enc Try.prog Try.f4.params.toList Rows.fourBackSpec.vars false W args.toList ds gs before) :
    Calls Try.prog 4 args W fun e W' => e = .returned (.bool true) ∧ Below W.heap.size W W' := by
  have hval : ∀ (j : Nat) t v, Try.f4.params[j]? = some t → args[j]? = some v → Value.okWide Try.prog W .any base t v := hval0
  obtain ⟨p, q, hA0, hV, rfl, hfz, hnd⟩ := hW
  have hA : DataW.TrodAll enc Try.prog W 0 (fun _ => true) true Try.f4.params.toList args.toList ds p := hA0
  rw [Try.params4] at hA hval
  obtain ⟨v0, vs0, d0, ds0, p0, q0, hargs, rfl, rfl, h0, r0⟩ := trodAll_cons hA
  obtain ⟨v1, vs1, d1, ds1, p1, q1, rfl, rfl, rfl, h1, r1⟩ := trodAll_cons r0
  obtain ⟨rfl, rfl, rfl⟩ := trodAll_nil r1
  obtain rfl : args = #[v0, v1] := by cases args; simp_all
  clear hA0 hval0
  obtain ⟨cs0, rfl, hs0, hf0⟩ := Kit.open_array Try.underlying23 (by kernel_rfl) (by kernel_rfl) (hval 0 23 v0 rfl rfl) h0
  obtain ⟨u0_0, u0_1, u0_2, u0_3, rfl⟩ := Kit.size_4 hs0
  obtain ⟨a0_0, rfl, w0_0⟩ := Kit.flat_int Try.underlying22 (v := u0_0) rfl (hf0 0 (by decide))
  obtain ⟨a0_1, rfl, w0_1⟩ := Kit.flat_int Try.underlying22 (v := u0_1) rfl (hf0 1 (by decide))
  obtain ⟨a0_2, rfl, w0_2⟩ := Kit.flat_int Try.underlying22 (v := u0_2) rfl (hf0 2 (by decide))
  obtain ⟨a0_3, rfl, w0_3⟩ := Kit.flat_int Try.underlying22 (v := u0_3) rfl (hf0 3 (by decide))
  obtain ⟨cs1, rfl, hs1, hf1⟩ := Kit.open_array Try.underlying23 (by kernel_rfl) (by kernel_rfl) (hval 1 23 v1 rfl rfl) h1
  obtain ⟨u1_0, u1_1, u1_2, u1_3, rfl⟩ := Kit.size_4 hs1
  obtain ⟨a1_0, rfl, w1_0⟩ := Kit.flat_int Try.underlying22 (v := u1_0) rfl (hf1 0 (by decide))
  obtain ⟨a1_1, rfl, w1_1⟩ := Kit.flat_int Try.underlying22 (v := u1_1) rfl (hf1 1 (by decide))
  obtain ⟨a1_2, rfl, w1_2⟩ := Kit.flat_int Try.underlying22 (v := u1_2) rfl (hf1 2 (by decide))
  obtain ⟨a1_3, rfl, w1_3⟩ := Kit.flat_int Try.underlying22 (v := u1_3) rfl (hf1 3 (by decide))
  exact walk (w := W) a0_0 w0_0 a0_1 w0_1 a0_2 w0_2 a0_3 w0_3 a1_0 w1_0 a1_1 w1_1 a1_2 w1_2 a1_3 w1_3
theorem fnIs {H : Type} : ∀ ds : List (DataW H), ds.length = Try.f4.params.toList.length → Rows.fourBackSpec.fn H ds = { results := [.lit (.bool true)], args := ds } := by
  intro ds h
  rw [Try.params4] at h
  match ds, h with
  | [d1, d2], _ => rfl
set_option maxRecDepth 100000 in
theorem lifted (os : Os) (started : os.Started) (H : Type) (enc : TypeId × Value → H) :
    ReturnsInHanded {} Try.checked os 4 .any (Rows.fourBackSpec.pre6 enc Try.prog Try.f4 Rows.fourBackRow.domain false) (Rows.fourBackSpec.post enc Try.prog Try.f4 false true false false) := by
  refine returnsInHanded_of_change (C := Try.checked) own started (by kernel_rfl) Try.func4
    (ChangeSpec.witness6 (enc := enc) (C := Try.checked) false ⟨#[], #[.agg #[.int .i16 0, .int .i16 0, .int .i16 0, .int .i16 0], .agg #[.int .i16 0, .int .i16 0, .int .i16 0, .int .i16 0]], []⟩ 8 (by kernel_rfl) (by kernel_rfl) (by kernel_rfl) (by kernel_rfl)) ?_
  intro W base args ds gs before hval hW _ _
  refine (contract hval hW).mono fun e W' ⟨he, hg⟩ => ?_
  subst he
  exact ⟨_, rfl, Kit.law_post (tb := 4) laid (by kernel_rfl) rfl (by kernel_rfl) Try.underlying4 fnIs hW hg⟩
theorem over : Rows.fourBackRow.holds Try.pinned (OpenSpec.ofChange Rows.fourBackSpec) :=
  OpenClaim.holds_of_wide 4 Try.f4 rfl rfl rfl rfl rfl rfl rfl ⟨rfl, rfl, rfl, rfl, rfl⟩ rfl rfl rfl rfl rfl (by kernel_rfl) Try.func4 (by kernel_rfl)
    (of_decide_eq_true (by kernel_rfl)) (by unfold Func.isWrapper; first | (rw [if_pos (by decide +kernel)]; kernel_rfl) | (rw [if_neg (by decide +kernel)]; exact ⟨rfl, rfl⟩))
    (fun os started H enc _ => lifted os started H enc)
/-- the statement. -/
theorem proved : Rows.FourBackSaid :=
  over
end Go.Proofs.Ytdohcmjpaepmlaa.lawFourBack
