/- Layer 15 (wheel): the contract of the code's two sums of four numbers. -/
import Derived.Test.YtbegabagokapoaaWheelAddY
namespace Go.Proofs.Ytbegabagokapoaa.CWheel
open Go Go.ChangeShapes Go.WideShapes Go.ChangeAt Go.RowKit
open FloatNum CFour
set_option linter.unusedVariables false

theorem Three.below {g : Nat} {a b c : Value} {w w' : World} (h : Three g a b c w) {B : Nat} (hb : Below B w w') (hg : g < B) : Three g a b c w' := by
  refine ⟨?_, ?_, ?_, Nat.lt_of_lt_of_le h.2.2.2 hb.size⟩
  · rw [hb.cell (p := ⟨g, 0, none⟩) hg]; exact h.1
  · rw [hb.cell (p := ⟨g, 1, none⟩) hg]; exact h.2.1
  · rw [hb.cell (p := ⟨g, 2, none⟩) hg]; exact h.2.2.1
theorem Three.drew {g : Nat} {a b c : Value} {w : World} (h : Three g a b c w) : Three g a b c w.drew := h
theorem Three.range {g : Nat} {a b c : Value} {w : World} (h : Three g a b c w) : w.rangeAt g 0 [a, b, c] := Kit.range_3 h.1 h.2.1 h.2.2.1
theorem Three.oth2 {g g' : Nat} {a b c : Value} {w : World} (h : Three g a b c w) (x y : Value) (hg : g ≠ g') : Three g a b c (CFour.set2 g' x y w) := by
  unfold CFour.set2
  refine ⟨?_, ?_, ?_, by simp; exact h.2.2.2⟩
  · rw [World.cell?_setCell_other _ _ _ _ (fun q => hg (congrArg Addr.block q).symm), World.cell?_setCell_other _ _ _ _ (fun q => hg (congrArg Addr.block q).symm)]; exact h.1
  · rw [World.cell?_setCell_other _ _ _ _ (fun q => hg (congrArg Addr.block q).symm), World.cell?_setCell_other _ _ _ _ (fun q => hg (congrArg Addr.block q).symm)]; exact h.2.1
  · rw [World.cell?_setCell_other _ _ _ _ (fun q => hg (congrArg Addr.block q).symm), World.cell?_setCell_other _ _ _ _ (fun q => hg (congrArg Addr.block q).symm)]; exact h.2.2.1

set_option maxHeartbeats 8000000 in
theorem two_to (a b c d x y z : Int) (ha : In16 a) (hb : In16 b) (hc : In16 c) (hd : In16 d) (hx : InW x) (hy : InW y) (hz : InW z) (p q : Int) (hp : a * x + b * y + c * z = p) (hq : b * x + c * y + d * z = q) (w : World) :
    Calls Try.prog 8 #[.agg #[.int .i16 a, .int .i16 b, .int .i16 c, .int .i16 d], w3 x y z] w fun e' w' => e' = .returned (.agg #[.int .i64 p, .int .i64 q]) ∧ Below w.heap.size w w' := by
  have HPM := Lib.hid (fun i => wh_mul ha hb hc hd hx hy hz i)
  have HPA := Lib.hid (fun i => wh_in ha hb hc hd i)
  have HPW := Lib.hid (fun i => wh_inw hx hy hz i)
  have HQA := Lib.hid ha
  have HQB := Lib.hid hb
  have HQC := Lib.hid hc
  have HQD := Lib.hid hd
  have HX := Lib.hid hx
  have HY := Lib.hid hy
  have HZ := Lib.hid hz
  have HP := Lib.hid hp
  have HQ := Lib.hid hq
  have HLL : Hid (131072 < 2 ^ 53 ∧ 512 < 2 ^ 53 ∧ 131072 * 512 + 131072 * 512 < 2 ^ 53) := Lib.hid (by decide)
  clear ha hb hc hd hx hy hz hp hq
  go_enter Try.func8, Try.ntmps8
  go_upto_region 1 with fail
  have b0 : Four w.heap.size (fun i => .int .i16 (l4 a b c d i)) (((w.alloc (.cells #[.int .i16 a, .int .i16 b, .int .i16 c, .int .i16 d] 26)).alloc (.cells #[.int .i8 x, .int .i8 y, .int .i8 z] 24)).alloc (.cells #[.int .i64 0, .int .i64 0] 30)) :=
    (Four.box w (fun i => .int .i16 (l4 a b c d i)) 26).below (((Below.refl _ _).alloc (Nat.le_refl _) (.cells #[.int .i8 x, .int .i8 y, .int .i8 z] 24)).alloc (by simp) (.cells #[.int .i64 0, .int .i64 0] 30)) (by simp)
  have b1 : Three (w.heap.size + 1) (.int .i8 x) (.int .i8 y) (.int .i8 z) (((w.alloc (.cells #[.int .i16 a, .int .i16 b, .int .i16 c, .int .i16 d] 26)).alloc (.cells #[.int .i8 x, .int .i8 y, .int .i8 z] 24)).alloc (.cells #[.int .i64 0, .int .i64 0] 30)) := ⟨by go_cell, by go_cell, by go_cell, by simp⟩
  have b2 : Two (w.heap.size + 1 + 1) (.int .i64 0) (.int .i64 0) (((w.alloc (.cells #[.int .i16 a, .int .i16 b, .int .i16 c, .int .i16 d] 26)).alloc (.cells #[.int .i8 x, .int .i8 y, .int .i8 z] 24)).alloc (.cells #[.int .i64 0, .int .i64 0] 30)) := by
    have h := Two.new ((w.alloc (.cells #[.int .i16 a, .int .i16 b, .int .i16 c, .int .i16 d] 26)).alloc (.cells #[.int .i8 x, .int .i8 y, .int .i8 z] 24)) (.int .i64 0) (.int .i64 0) 30
    simpa using h
  have hB : Below w.heap.size w (((w.alloc (.cells #[.int .i16 a, .int .i16 b, .int .i16 c, .int .i16 d] 26)).alloc (.cells #[.int .i8 x, .int .i8 y, .int .i8 z] 24)).alloc (.cells #[.int .i64 0, .int .i64 0] 30)) := (((Below.refl _ _).alloc (Nat.le_refl _) _).alloc (by simp) _).alloc (by simp; omega) _
  have H0 := Lib.hid b0
  have H1 := Lib.hid b1
  have H2 := Lib.hid b2
  have HB := Lib.hid hB
  clear b0 b1 b2 hB
  generalize ((w.alloc (.cells #[.int .i16 a, .int .i16 b, .int .i16 c, .int .i16 d] 26)).alloc (.cells #[.int .i8 x, .int .i8 y, .int .i8 z] 24)).alloc (.cells #[.int .i64 0, .int .i64 0] 30) = wa at H0 H1 H2 HB ⊢
  have hsz : w.heap.size + 1 + 1 < wa.heap.size := H2.out.2.2.2
  refine wp_region_held_drew (S := fun W => Four w.heap.size (fun i => Value.int .i16 (l4 a b c d i)) W ∧ Three (w.heap.size + 1) (.int .i8 x) (.int .i8 y) (.int .i8 z) W) (by kernel_rfl) ⟨H0.out.drew, H1.out.drew⟩ (fun hHeld => ?_)
  replace H0 := Lib.hid H0.out.drew
  replace H1 := Lib.hid H1.out.drew
  replace H2 := Lib.hid H2.out.drew
  replace HB := Lib.hid HB.out.drew
  generalize wa.drew = Wd at H0 H1 H2 HB hHeld ⊢
  have hY0 : ∀ W, (Four w.heap.size (fun i => Value.int .i16 (l4 a b c d i)) W ∧ Three (w.heap.size + 1) (.int .i8 x) (.int .i8 y) (.int .i8 z) W) → W.rangeAt w.heap.size 0 [.int .i16 a, .int .i16 b, .int .i16 c, .int .i16 d] := fun W hW => range_4 (hW.1.1 0 (by omega)) (hW.1.1 1 (by omega)) (hW.1.1 2 (by omega)) (hW.1.1 3 (by omega))
  refine wpAnyH_take (i := 0) (oi := ({ dst := some 5, op := Op.load 26 (Operand.tmp 2), type := 26, pos := "wheel.go:16", after := #[], guard := none } : Oper)) (v := .agg #[.int .i16 a, .int .i16 b, .int .i16 c, .int .i16 d]) rfl (by kernel_rfl) (by kernel_rfl) (by kernel_rfl) (fun _ _ _ h => h) (yieldsIf_load_mid (by rfl) _ _ rfl (w.heap.size) 0 rfl [.int .i16 a, .int .i16 b, .int .i16 c, .int .i16 d] _ hY0 Try.underlying26 rfl (by kernel_rfl)) (by assumption) ?_
  try simp only [Act.put, List.setIfInBounds_toArray, List.set_cons_zero, List.set_cons_succ]
  clear hY0
  have hY2 : ∀ W, (Four w.heap.size (fun i => Value.int .i16 (l4 a b c d i)) W ∧ Three (w.heap.size + 1) (.int .i8 x) (.int .i8 y) (.int .i8 z) W) → W.rangeAt (w.heap.size + 1) 0 [.int .i8 x, .int .i8 y, .int .i8 z] := fun W hW => hW.2.range
  refine wpAnyH_take (i := 2) (oi := ({ dst := some 7, op := Op.load 24 (Operand.tmp 3), type := 24, pos := "wheel.go:16", after := #[], guard := none } : Oper)) (v := .agg #[.int .i8 x, .int .i8 y, .int .i8 z]) rfl (by kernel_rfl) (by kernel_rfl) (by kernel_rfl) (fun _ _ _ h => h) (yieldsIf_load_mid (by rfl) _ _ rfl ((w.heap.size + 1)) 0 rfl [.int .i8 x, .int .i8 y, .int .i8 z] _ hY2 Try.underlying24 rfl (by kernel_rfl)) (by assumption) ?_
  try simp only [Act.put, List.setIfInBounds_toArray, List.set_cons_zero, List.set_cons_succ]
  clear hY2
  refine wpAnyH_ready (rs := [1]) (by kernel_rfl) (by simp) ?_
  refine AllReadyH.cons (o := ({ dst := some 6, op := Op.call { callee := Callee.value (Operand.func 16), args := #[Operand.tmp 5], argTypes := #[26] }, type := 42, pos := "wheel.go:16", after := #[{ on := 0, ground := Ground.data }], guard := none } : Oper)) rfl (fun K hK => ?_) (AllReadyH.nil)
  go_simp
  go_at_call 16
  refine (of_to a b c d HQA.out HQB.out HQC.out HQD.out _).mono ?_
  rintro e Wc1 ⟨⟨SA, rfl, hSA⟩, hb1⟩
  have HSA := Lib.hid hSA
  clear hSA
  replace H0 := Lib.hid (H0.out.below hb1 H0.out.2.2)
  replace H1 := Lib.hid (H1.out.below hb1 H1.out.2.2.2)
  replace H2 := Lib.hid (H2.out.below hb1 H2.out.2.2.2)
  replace HB := Lib.hid (HB.out.trans (hb1.mono HB.out.size))
  clear hb1 hHeld
  dsimp only
  refine hK.out _ _ ?_ (fun hHeld => ?_)
  · exact ⟨H0.out, H1.out⟩
  clear hK K
  try simp only [Act.put, List.setIfInBounds_toArray, List.set_cons_zero, List.set_cons_succ]
  refine wpAnyH_ready (rs := [3]) (by kernel_rfl) (by simp) ?_
  refine AllReadyH.cons (o := ({ dst := some 8, op := Op.call { callee := Callee.value (Operand.func 17), args := #[Operand.tmp 7], argTypes := #[24] }, type := 42, pos := "wheel.go:16", after := #[{ on := 2, ground := Ground.data }, { on := 1, ground := Ground.chain }], guard := none } : Oper)) rfl (fun K hK => ?_) (AllReadyH.nil)
  go_simp
  go_at_call 17
  refine (rolled_to x y z HX.out HY.out HZ.out _).mono ?_
  rintro e Wc2 ⟨⟨SB, rfl, hSB⟩, hb1⟩
  have HSB := Lib.hid hSB
  clear hSB
  replace H0 := Lib.hid (H0.out.below hb1 H0.out.2.2)
  replace H1 := Lib.hid (H1.out.below hb1 H1.out.2.2.2)
  replace H2 := Lib.hid (H2.out.below hb1 H2.out.2.2.2)
  replace HB := Lib.hid (HB.out.trans (hb1.mono HB.out.size))
  clear hb1 hHeld
  dsimp only
  refine hK.out _ _ ?_ (fun hHeld => ?_)
  · exact ⟨H0.out, H1.out⟩
  clear hK K
  try simp only [Act.put, List.setIfInBounds_toArray, List.set_cons_zero, List.set_cons_succ]
  refine wpAnyH_ready (rs := [4]) (by kernel_rfl) (by simp) ?_
  refine AllReadyH.cons (o := ({ dst := some 9, op := Op.call { callee := Callee.value (Operand.func 15), args := #[Operand.tmp 6, Operand.tmp 8], argTypes := #[42, 42] }, type := 42, pos := "wheel.go:16", after := #[{ on := 1, ground := Ground.data }, { on := 3, ground := Ground.data }, { on := 3, ground := Ground.chain }], guard := none } : Oper)) rfl (fun K hK => ?_) (AllReadyH.nil)
  go_simp
  go_at_call 15
  refine (times_to SA SB (wh4 a b c d) (wh4 x 0 z y) 131072 512 HLL.out.1 HLL.out.2.1 HLL.out.2.2 HSA.out HSB.out HPA.out HPW.out _).mono ?_
  rintro e Wc3 ⟨⟨SC, rfl, hSC⟩, hb1⟩
  have HSC := Lib.hid hSC
  clear hSC
  replace H0 := Lib.hid (H0.out.below hb1 H0.out.2.2)
  replace H1 := Lib.hid (H1.out.below hb1 H1.out.2.2.2)
  replace H2 := Lib.hid (H2.out.below hb1 H2.out.2.2.2)
  replace HB := Lib.hid (HB.out.trans (hb1.mono HB.out.size))
  clear hb1 hHeld
  dsimp only
  refine hK.out _ _ ?_ (fun hHeld => ?_)
  · exact ⟨H0.out, H1.out⟩
  clear hK K
  try simp only [Act.put, List.setIfInBounds_toArray, List.set_cons_zero, List.set_cons_succ]
  refine wpAnyH_ready (rs := [5]) (by kernel_rfl) (by simp) ?_
  refine AllReadyH.cons (o := ({ dst := some 10, op := Op.call { callee := Callee.value (Operand.func 14), args := #[Operand.tmp 9], argTypes := #[42] }, type := 30, pos := "wheel.go:16", after := #[{ on := 4, ground := Ground.data }, { on := 4, ground := Ground.chain }], guard := none } : Oper)) rfl (fun K hK => ?_) (AllReadyH.nil)
  go_simp
  go_at_call 14
  refine (unrolled_to SC (fun i => gmul (wh4 a b c d i) (wh4 x 0 z y i)) 134217728 (by decide) HSC.out HPM.out (wl a b c d x y z) (wl_back a b c d x y z) p q HP.out HQ.out _).mono ?_
  rintro e Wc4 ⟨rfl, hb1⟩
  replace H0 := Lib.hid (H0.out.below hb1 H0.out.2.2)
  replace H1 := Lib.hid (H1.out.below hb1 H1.out.2.2.2)
  replace H2 := Lib.hid (H2.out.below hb1 H2.out.2.2.2)
  replace HB := Lib.hid (HB.out.trans (hb1.mono HB.out.size))
  clear hb1 hHeld
  dsimp only
  refine hK.out _ _ ?_ (fun hHeld => ?_)
  · exact ⟨H0.out, H1.out⟩
  clear hK K
  try simp only [Act.put, List.setIfInBounds_toArray, List.set_cons_zero, List.set_cons_succ]
  refine wpAnyH_ready (rs := [6]) (by kernel_rfl) (by simp) ?_
  refine AllReadyH.cons (o := ({ dst := none, op := Op.store 30 (Operand.tmp 4) (Operand.tmp 10), type := 0, pos := "wheel.go:16", after := #[{ on := 5, ground := Ground.data }, { on := 5, ground := Ground.chain }, { on := 0, ground := Ground.phase }, { on := 1, ground := Ground.phase }, { on := 2, ground := Ground.phase }, { on := 3, ground := Ground.phase }, { on := 4, ground := Ground.phase }, { on := 5, ground := Ground.phase }], guard := none } : Oper)) rfl (fun K hK => ?_) (AllReadyH.nil)
  refine Eq.mpr (if_pos (by kernel_rfl)) ?_
  refine wp_store_mid 30 _ _ rfl (w.heap.size + 1 + 1) 0 #[.int .i64 p, .int .i64 q] rfl rfl H2.out.there (by kernel_rfl) (one2 _ _) ?_
  change K _ (CFour.set2 (w.heap.size + 1 + 1) (.int .i64 p) (.int .i64 q) Wc4)
  replace H2 := Lib.hid (H2.out.set2 (.int .i64 p) (.int .i64 q))
  replace H0 := Lib.hid (H0.out.oth2 (g' := w.heap.size + 1 + 1) (.int .i64 p) (.int .i64 q) (by omega))
  replace H1 := Lib.hid (H1.out.oth2 (g' := w.heap.size + 1 + 1) (.int .i64 p) (.int .i64 q) (by omega))
  replace HB := Lib.hid (below_set2 HB.out (g := w.heap.size + 1 + 1) (by omega) (.int .i64 p) (.int .i64 q))
  clear hHeld
  generalize CFour.set2 (w.heap.size + 1 + 1) (.int .i64 p) (.int .i64 q) Wc4 = We at H0 H1 H2 HB ⊢
  refine hK.out _ _ ?_ (fun hHeld => ?_)
  · exact ⟨H0.out, H1.out⟩
  clear hK K
  try simp only [Act.put]
  refine wpAnyH_done (by kernel_rfl) ?_ _
  go_wp2_with fail
  refine bodyPost_ret (Kit.results_c rfl _ _ (w.heap.size + 1 + 1) 0 [.int .i64 p, .int .i64 q] _ rfl (Kit.range_2 H2.out.1 H2.out.2.1) Try.underlying30 rfl (by kernel_rfl)) rfl ?_
  exact ⟨rfl, HB.out⟩
end Go.Proofs.Ytbegabagokapoaa.CWheel
