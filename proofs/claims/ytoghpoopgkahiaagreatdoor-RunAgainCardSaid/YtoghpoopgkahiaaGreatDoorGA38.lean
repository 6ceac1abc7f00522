/- Texts of this seat, one behind the other: PadAll. -/
import Derived.Test.YtoghpoopgkahiaaGreatDoorGA7
import Derived.Test.YtoghpoopgkahiaaGreatDoorGA37
section
namespace Go.Proofs.YtoghpoopgkahiaaGreatDoor.CPad
set_option maxRecDepth 100000
open Go Go.ChangeShapes Go.WideShapes Go.ChangeAt Go.RowKit
open Plain CSat CShape CTensor
set_option linter.unusedVariables false
/-- the first error of a tensor and a width. -/
def mayZ (H W C : Int) (n : Nat) (p : Int) : Int := if tensB H W C n = true then (if p < 0 ∨ 4 < p then 2 else 0) else 5
theorem tens_bd2 {H W C : Int} {n : Nat} (ht : tensB H W C n = true) : 1 ≤ H ∧ H ≤ 16 ∧ 1 ≤ W ∧ W ≤ 16 := by
  simp only [tensB, Bool.and_eq_true] at ht
  obtain ⟨a1, a2, a3, a4, -⟩ := shapeB_yes ht.1
  exact ⟨a1, a2, a3, a4⟩
theorem around_err (H W C : Int) (A : Option Addr) (n c : Nat) (p z : Int) (er : Int) (he : mayZ H W C n p = er) (h0 : er ≠ 0) (w : World) :
    Calls Tryz.prog 22 #[.agg #[.int .i64 H, .int .i64 W, .int .i64 C, .slice A n c], .int .i64 p, .int .i8 z] w (Made w 0 0 0 0 [] (.int .i64 er)) := by
  have HE := Lib.hid (show (if tensB H W C n = true then (if p < 0 ∨ 4 < p then 2 else 0) else 5) = er from he)
  have h0b : (er != 0) = true := by simpa using h0
  have h0c : (er == 0) = false := by simpa using h0
  clear he
  go_enter Tryz.func22, Tryz.ntmps22
  go_wp2_with (go_at_call 63; (refine (check_to H W C A n c p er HE.out _).mono ?_); (rintro e w1 ⟨rfl, hb⟩; obtain ⟨hcc, hff⟩ := Kit.bcell hb; have hz : w.heap.size + 2 ≤ w1.heap.size := (by have := hb.size; simp at this; omega); have hz1 : w.heap.size + 1 < w1.heap.size := (by omega); have hz0 : w.heap.size < w1.heap.size := (by omega); have HB0 := Lib.hid hb; clear hb))
  refine bodyPost_ret (Kit.results_ct rfl _ _ (w.heap.size + 1) 0 [.int .i64 0, .int .i64 0, .int .i64 0, .slice none 0 0] _ rfl (range_4 (by go_cell) (by go_cell) (by go_cell) (by go_cell)) Tryz.underlying32 rfl (by kernel_rfl)) rfl ?_
  have hB1 : Below w.heap.size w w1 := Below.trans (((Below.refl _ _).alloc (Nat.le_refl _) _).alloc (by simp) _) (HB0.out.mono (by first | omega | (simp; done) | (simp; omega)))
  exact ⟨_, rfl, World.ownsRow_nil _ _ _ _, ((((hB1.setCell (p := ⟨w.heap.size + 1, 0, none⟩) (by simp) _).setCell (p := ⟨w.heap.size + 1, 1, none⟩) (by simp) _).setCell (p := ⟨w.heap.size + 1, 2, none⟩) (by simp) _).setCell (p := ⟨w.heap.size + 1, 3, none⟩) (by simp) _)⟩
set_option maxHeartbeats 2000000 in
theorem around_yes (H W C : Int) (A : Option Addr) (zs : List Int) (n c : Nat) (p z : Int) (hn : zs.length = n) (hc : n ≤ c) (ht : tensB H W C n = true) (p0 : 0 ≤ p) (p4 : p ≤ 4) (hs : shapeB (H + 2 * p) (W + 2 * p) C = true) (a b d : Nat) (hU : (H + 2 * p) = (a : Int)) (hV : (W + 2 * p) = (b : Int)) (hC : C = (d : Int)) (m : Nat) (hm : a * b * d = m) (F : Nat → Int) (hF : ∀ i j k : Nat, i < a → j < b → k < d → pixZ zs H W C (IntKind.i64.wrap ((i : Int) - p)) (IntKind.i64.wrap ((j : Int) - p)) (k : Int) z = F ((i * b + j) * d + k)) {Bz : Nat} (w : World) (hBz : Bz ≤ w.heap.size) (hr : Kit.Rd w Bz A (I8s zs)) :
    Calls Tryz.prog 22 #[.agg #[.int .i64 H, .int .i64 W, .int .i64 C, .slice A n c], .int .i64 p, .int .i8 z] w (Made w (H + 2 * p) (W + 2 * p) C m (rowL F m) (.int .i64 0)) := by
  obtain ⟨g1, g2, g3, g4⟩ := tens_bd2 ht
  have HE := Lib.hid (show (if tensB H W C n = true then (if p < 0 ∨ 4 < p then 2 else 0) else 5) = (0 : Int) by rw [if_pos ht, if_neg (by omega)])
  have HS := Lib.hid hs
  have HT := Lib.hid ht
  have HN := Lib.hid hn
  have HU := Lib.hid hU
  have HV := Lib.hid hV
  have HCd := Lib.hid hC
  have HMm := Lib.hid hm
  have HF := Lib.hid hF
  have HR := Lib.hid hr
  have hcc0 : n ≤ c := hc
  clear hn hU hV hC hm hF hr
  clear hs ht
  go_enter Tryz.func22, Tryz.ntmps22
  go_wp2_with (go_at_call 63; (refine (check_to H W C A n c p 0 HE.out _).mono ?_); (rintro e w1 ⟨rfl, hb⟩; obtain ⟨hcc, hff⟩ := Kit.bcell hb; have hz : w.heap.size + 2 ≤ w1.heap.size := (by have := hb.size; simp at this; omega); have hz1 : w.heap.size + 1 < w1.heap.size := (by omega); have hz0 : w.heap.size < w1.heap.size := (by omega); have HB0 := Lib.hid hb; clear hb))
  have hbx : BoxAt w.heap.size H W C A n c w1.drew := ((BoxAt.newq H W C A n c 32 w).below (Nat.lt_succ_self _) ((Below.refl _ _).alloc (by simp) (.cells #[.int .i64 0, .int .i64 0, .int .i64 0, .slice none 0 0] 32))).below (by first | omega | (simp; done) | (simp; omega)) HB0.out.drew
  have HFR : Hid (FreshT (w.heap.size + 1) w1.drew) := Lib.hid ((FreshT.new 32 (w.alloc (.cells #[.int .i64 H, .int .i64 W, .int .i64 C, .slice A n c] 32)) (w.heap.size + 1) (by simp)).below (by first | omega | (simp; done) | (simp; omega)) HB0.out.drew)
  have HBW : Hid (Below w.heap.size w w1.drew) := Lib.hid ((Below.trans (((Below.refl _ _).alloc (Nat.le_refl _) _).alloc (by simp) _) (HB0.out.mono (by first | omega | (simp; done) | (simp; omega)))).drew)
  have hz : w.heap.size + 2 ≤ w1.drew.heap.size := hz
  clear hcc hff HB0 hz1 hz0
  refine wp_region_held_drew (S := BoxAt w.heap.size H W C A n c) (by kernel_rfl) hbx (fun hHeld => ?_)
  clear hbx
  generalize w1.drew = Wa at HFR HBW hz hHeld ⊢
  refine Tk.x 0 rfl ?_
  try simp only [Tk.put]
  refine Tk.y 1 (v := ?_) rfl ?_ ?_
  rotate_left
  · intro wS hSw
    obtain ⟨s1, s2, s3, s4⟩ := hSw
    first | (go_simp; done) | (go_simp; with_reducible rfl)
  try simp only [Tk.put]
  refine Tk.x 2 rfl ?_
  try simp only [Tk.put]
  refine Tk.y 4 (v := ?_) rfl ?_ ?_
  rotate_left
  · intro wS hSw
    obtain ⟨s1, s2, s3, s4⟩ := hSw
    first | (go_simp; done) | (go_simp; with_reducible rfl)
  try simp only [Tk.put]
  refine Tk.x 5 rfl ?_
  try simp only [Tk.put]
  refine Tk.x 6 rfl ?_
  try simp only [Tk.put]
  refine Tk.x 7 rfl ?_
  try simp only [Tk.put]
  refine Tk.s 3 rfl (fun K hK => ?_)
  go_simp
  go_at_call 65
  refine (widened_to H W C p g1 g2 g3 g4 (by omega) (by omega) _).mono ?_
  rintro e Wb ⟨rfl, hb1⟩
  have hS1 := hHeld.below (B' := _) (by omega) hb1
  replace HFR := Lib.hid (HFR.out.below (B' := _) (by omega) hb1)
  replace HBW := Lib.hid (HBW.out.trans (hb1.mono (by omega)))
  replace hz := Nat.le_trans hz hb1.size
  clear hb1 hHeld
  dsimp only
  refine hK.out _ _ ?_ (fun hHeld => ?_)
  · exact hS1
  clear hK K
  try simp only [Tk.put]
  refine Tk.s 8 rfl (fun K hK => ?_)
  go_simp
  go_at_call 66
  refine (moved_to H W C A n c p p z _).mono ?_
  rintro e Wc ⟨rfl, hmv, hzm, hb2⟩
  have HMV := Lib.hid hmv
  have hS1 := hHeld.below (B' := _) (by omega) hb2
  replace HFR := Lib.hid (HFR.out.below (B' := _) (by omega) hb2)
  replace HBW := Lib.hid (HBW.out.trans (hb2.mono (by omega)))
  have hzc := Nat.le_trans hz hb2.size
  have hzg : w.heap.size + 2 ≤ Wb.heap.size := by assumption
  clear hb2 hHeld hmv
  dsimp only
  refine hK.out _ _ ?_ (fun hHeld => ?_)
  · exact hS1
  clear hK K
  try simp only [Tk.put]
  refine Tk.s 9 rfl (fun K hK => ?_)
  go_simp
  go_at_call 64
  refine (build_yes (H + 2 * p) (W + 2 * p) H W C A zs n c HN.out hcc0 HT.out HS.out a b d HU.out HV.out HCd.out m HMm.out p p z F HF.out (B := Wb.heap.size) (Bz := Bz) _ HMV.out hzm (Nat.le_trans hBz HBW.out.size) (HR.out.below (HBW.out.mono hBz))).mono ?_
  rintro e Wd ⟨vd, rfl, ho3, hb3⟩
  obtain ⟨Ad, cd, rfl, -, -, -⟩ := Kit.own_rd ho3
  have HO := Lib.hid (Kit.own_base ho3 (show w.heap.size + 2 ≤ Wc.heap.size by omega))
  have hS1 := hHeld.below (B' := _) (by omega) hb3
  replace HFR := Lib.hid (HFR.out.below (B' := _) (by omega) hb3)
  replace HBW := Lib.hid (HBW.out.trans (hb3.mono (by omega)))
  have hzd := Nat.le_trans hzc hb3.size
  clear hb3 hHeld ho3
  obtain ⟨⟨z0, z1, z2, z3⟩, z4, z5, z6, z7⟩ := HFR.out
  dsimp only
  refine hK.out _ _ ?_ (fun hHeld => ?_)
  · exact hS1
  clear hK K
  try simp only [Tk.put]
  refine Tk.x 10 rfl ?_
  try simp only [Tk.put]
  refine Tk.x 11 rfl ?_
  try simp only [Tk.put]
  refine Tk.s 12 rfl (fun K hK => ?_)
  go_simp
  refine hK.out _ _ ?_ (fun hHeld => ?_)
  · exact hHeld.stores (by omega) _ _ _ _
  clear hK K
  try simp only [Tk.put]
  refine Tk.x 13 rfl ?_
  try simp only [Tk.put]
  refine wpAnyH_done (by kernel_rfl) ?_ _
  go_wp2_with fail
  refine bodyPost_ret (Kit.results_ct rfl _ _ (w.heap.size + 1) 0 [.int .i64 (H + 2 * p), .int .i64 (W + 2 * p), .int .i64 C, .slice Ad m cd] _ rfl (range_4 (by go_cell) (by go_cell) (by go_cell) (by go_cell)) Tryz.underlying32 rfl (by kernel_rfl)) rfl ?_
  refine ⟨_, rfl, Kit.own_base (own_set (own_set (own_set (own_set HO.out _ _ ?_) _ _ ?_) _ _ ?_) _ _ ?_) ?_, ?_⟩
  any_goals (first | omega | (simp; done) | (simp; omega))
  exact ((((HBW.out.setCell (p := ⟨w.heap.size + 1, 0, none⟩) (by simp) _).setCell (p := ⟨w.heap.size + 1, 1, none⟩) (by simp) _).setCell (p := ⟨w.heap.size + 1, 2, none⟩) (by simp) _).setCell (p := ⟨w.heap.size + 1, 3, none⟩) (by simp) _)
set_option maxHeartbeats 2000000 in
theorem around_no (H W C : Int) (A : Option Addr) (n c : Nat) (p z : Int) (ht : tensB H W C n = true) (p0 : 0 ≤ p) (p4 : p ≤ 4) (hs : shapeB (H + 2 * p) (W + 2 * p) C = false) (w : World) :
    Calls Tryz.prog 22 #[.agg #[.int .i64 H, .int .i64 W, .int .i64 C, .slice A n c], .int .i64 p, .int .i8 z] w (Made w 0 0 0 0 [] (.int .i64 5)) := by
  obtain ⟨g1, g2, g3, g4⟩ := tens_bd2 ht
  have HE := Lib.hid (show (if tensB H W C n = true then (if p < 0 ∨ 4 < p then 2 else 0) else 5) = (0 : Int) by rw [if_pos ht, if_neg (by omega)])
  have HS := Lib.hid hs
  have HT := Lib.hid ht
  clear hs ht
  go_enter Tryz.func22, Tryz.ntmps22
  go_wp2_with (go_at_call 63; (refine (check_to H W C A n c p 0 HE.out _).mono ?_); (rintro e w1 ⟨rfl, hb⟩; obtain ⟨hcc, hff⟩ := Kit.bcell hb; have hz : w.heap.size + 2 ≤ w1.heap.size := (by have := hb.size; simp at this; omega); have hz1 : w.heap.size + 1 < w1.heap.size := (by omega); have hz0 : w.heap.size < w1.heap.size := (by omega); have HB0 := Lib.hid hb; clear hb))
  have hbx : BoxAt w.heap.size H W C A n c w1.drew := ((BoxAt.newq H W C A n c 32 w).below (Nat.lt_succ_self _) ((Below.refl _ _).alloc (by simp) (.cells #[.int .i64 0, .int .i64 0, .int .i64 0, .slice none 0 0] 32))).below (by first | omega | (simp; done) | (simp; omega)) HB0.out.drew
  have HFR : Hid (FreshT (w.heap.size + 1) w1.drew) := Lib.hid ((FreshT.new 32 (w.alloc (.cells #[.int .i64 H, .int .i64 W, .int .i64 C, .slice A n c] 32)) (w.heap.size + 1) (by simp)).below (by first | omega | (simp; done) | (simp; omega)) HB0.out.drew)
  have HBW : Hid (Below w.heap.size w w1.drew) := Lib.hid ((Below.trans (((Below.refl _ _).alloc (Nat.le_refl _) _).alloc (by simp) _) (HB0.out.mono (by first | omega | (simp; done) | (simp; omega)))).drew)
  have hz : w.heap.size + 2 ≤ w1.drew.heap.size := hz
  clear hcc hff HB0 hz1 hz0
  refine wp_region_held_drew (S := BoxAt w.heap.size H W C A n c) (by kernel_rfl) hbx (fun hHeld => ?_)
  clear hbx
  generalize w1.drew = Wa at HFR HBW hz hHeld ⊢
  refine Tk.x 0 rfl ?_
  try simp only [Tk.put]
  refine Tk.y 1 (v := ?_) rfl ?_ ?_
  rotate_left
  · intro wS hSw
    obtain ⟨s1, s2, s3, s4⟩ := hSw
    first | (go_simp; done) | (go_simp; with_reducible rfl)
  try simp only [Tk.put]
  refine Tk.x 2 rfl ?_
  try simp only [Tk.put]
  refine Tk.y 4 (v := ?_) rfl ?_ ?_
  rotate_left
  · intro wS hSw
    obtain ⟨s1, s2, s3, s4⟩ := hSw
    first | (go_simp; done) | (go_simp; with_reducible rfl)
  try simp only [Tk.put]
  refine Tk.x 5 rfl ?_
  try simp only [Tk.put]
  refine Tk.x 6 rfl ?_
  try simp only [Tk.put]
  refine Tk.x 7 rfl ?_
  try simp only [Tk.put]
  refine Tk.s 3 rfl (fun K hK => ?_)
  go_simp
  go_at_call 65
  refine (widened_to H W C p g1 g2 g3 g4 (by omega) (by omega) _).mono ?_
  rintro e Wb ⟨rfl, hb1⟩
  have hS1 := hHeld.below (B' := _) (by omega) hb1
  replace HFR := Lib.hid (HFR.out.below (B' := _) (by omega) hb1)
  replace HBW := Lib.hid (HBW.out.trans (hb1.mono (by omega)))
  replace hz := Nat.le_trans hz hb1.size
  clear hb1 hHeld
  dsimp only
  refine hK.out _ _ ?_ (fun hHeld => ?_)
  · exact hS1
  clear hK K
  try simp only [Tk.put]
  refine Tk.s 8 rfl (fun K hK => ?_)
  go_simp
  go_at_call 66
  refine (moved_to H W C A n c p p z _).mono ?_
  rintro e Wc ⟨rfl, hmv, hzm, hb2⟩
  have HMV := Lib.hid hmv
  have hS1 := hHeld.below (B' := _) (by omega) hb2
  replace HFR := Lib.hid (HFR.out.below (B' := _) (by omega) hb2)
  replace HBW := Lib.hid (HBW.out.trans (hb2.mono (by omega)))
  have hzc := Nat.le_trans hz hb2.size
  have hzg : w.heap.size + 2 ≤ Wb.heap.size := by assumption
  clear hb2 hHeld hmv
  dsimp only
  refine hK.out _ _ ?_ (fun hHeld => ?_)
  · exact hS1
  clear hK K
  try simp only [Tk.put]
  refine Tk.s 9 rfl (fun K hK => ?_)
  go_simp
  go_at_call 64
  refine (build_no (H + 2 * p) (W + 2 * p) C HS.out _ _).mono ?_
  rintro e Wd ⟨rfl, hb3⟩
  have hS1 := hHeld.below (B' := _) (by omega) hb3
  replace HFR := Lib.hid (HFR.out.below (B' := _) (by omega) hb3)
  replace HBW := Lib.hid (HBW.out.trans (hb3.mono (by omega)))
  have hzd := Nat.le_trans hzc hb3.size
  clear hb3 hHeld
  obtain ⟨⟨z0, z1, z2, z3⟩, z4, z5, z6, z7⟩ := HFR.out
  dsimp only
  refine hK.out _ _ ?_ (fun hHeld => ?_)
  · exact hS1
  clear hK K
  try simp only [Tk.put]
  refine Tk.x 10 rfl ?_
  try simp only [Tk.put]
  refine Tk.x 11 rfl ?_
  try simp only [Tk.put]
  refine Tk.s 12 rfl (fun K hK => ?_)
  go_simp
  refine hK.out _ _ ?_ (fun hHeld => ?_)
  · exact hHeld.stores (by omega) _ _ _ _
  clear hK K
  try simp only [Tk.put]
  refine Tk.x 13 rfl ?_
  try simp only [Tk.put]
  refine wpAnyH_done (by kernel_rfl) ?_ _
  go_wp2_with fail
  refine bodyPost_ret (Kit.results_ct rfl _ _ (w.heap.size + 1) 0 [.int .i64 0, .int .i64 0, .int .i64 0, .slice none 0 0] _ rfl (range_4 (by go_cell) (by go_cell) (by go_cell) (by go_cell)) Tryz.underlying32 rfl (by kernel_rfl)) rfl ?_
  exact ⟨_, rfl, World.ownsRow_nil _ _ _ _, ((((HBW.out.setCell (p := ⟨w.heap.size + 1, 0, none⟩) (by simp) _).setCell (p := ⟨w.heap.size + 1, 1, none⟩) (by simp) _).setCell (p := ⟨w.heap.size + 1, 2, none⟩) (by simp) _).setCell (p := ⟨w.heap.size + 1, 3, none⟩) (by simp) _)⟩
end Go.Proofs.YtoghpoopgkahiaaGreatDoor.CPad
end
