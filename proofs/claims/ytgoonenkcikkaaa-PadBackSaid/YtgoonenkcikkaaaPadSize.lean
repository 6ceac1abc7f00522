/- Contracts of layer 9's document side: the first error, the tensor with more or less around it. -/
import Derived.Test.YtgoonenkcikkaaaPadMove
namespace Go.Proofs.Ytgoonenkcikkaaa.CPad
open Go Go.ChangeShapes Go.WideShapes Go.ChangeAt Go.RowKit
open Plain CSat CShape CTensor
set_option linter.unusedVariables false

theorem refMay_to (H W C : Int) (A : Option Addr) (n c : Nat) (p : Int) (r : Int) (hr : (if tensB H W C n = true then (if p < 0 ∨ 4 < p then 2 else 0) else 5) = r) (w : World) :
    Calls Try.prog 9 #[.agg #[.int .i64 H, .int .i64 W, .int .i64 C, .slice A n c], .int .i64 p] w fun e w' => e = .returned (.int .i64 r) ∧ Below w.heap.size w w' := by
  cases ht : tensB H W C n
  · rw [ht] at hr
    simp at hr
    subst hr
    have HT := Lib.hid ht
    clear ht
    go_enter Try.func9, Try.ntmps9
    go_wp2_with (go_at_call 13; (refine (refRight_to H W C A n c false HT.out _).mono ?_); rintro e w1 ⟨rfl, hb⟩; (have HB := Lib.hid (((Below.refl w.heap.size w).alloc (Nat.le_refl _) _).trans (hb.mono (by simp)))); clear hb)
    go_ret
    exact ⟨rfl, HB.out⟩
  · rw [ht, if_pos rfl] at hr
    have HT := Lib.hid ht
    clear ht
    rcases (show p < 0 ∨ (0 ≤ p ∧ 4 < p) ∨ (0 ≤ p ∧ p ≤ 4) by omega) with h | ⟨h, h2⟩ | ⟨h, h2⟩
    · rw [if_pos (Or.inl h)] at hr
      subst hr
      go_enter Try.func9, Try.ntmps9
      go_wp2_with (go_at_call 13; (refine (refRight_to H W C A n c true HT.out _).mono ?_); rintro e w1 ⟨rfl, hb⟩; (have HB := Lib.hid (((Below.refl w.heap.size w).alloc (Nat.le_refl _) _).trans (hb.mono (by simp)))); clear hb)
      go_ret
      exact ⟨rfl, HB.out⟩
    · rw [if_pos (Or.inr h2)] at hr
      subst hr
      go_enter Try.func9, Try.ntmps9
      go_wp2_with (go_at_call 13; (refine (refRight_to H W C A n c true HT.out _).mono ?_); rintro e w1 ⟨rfl, hb⟩; (have HB := Lib.hid (((Below.refl w.heap.size w).alloc (Nat.le_refl _) _).trans (hb.mono (by simp)))); clear hb)
      go_ret
      exact ⟨rfl, HB.out⟩
    · rw [if_neg (by omega)] at hr
      subst hr
      go_enter Try.func9, Try.ntmps9
      go_wp2_with (go_at_call 13; (refine (refRight_to H W C A n c true HT.out _).mono ?_); rintro e w1 ⟨rfl, hb⟩; (have HB := Lib.hid (((Below.refl w.heap.size w).alloc (Nat.le_refl _) _).trans (hb.mono (by simp)))); clear hb)
      go_ret
      exact ⟨rfl, HB.out⟩
theorem tens_bd {H W C : Int} {n : Nat} (ht : tensB H W C n = true) : 1 ≤ H ∧ H ≤ 16 ∧ 1 ≤ W ∧ W ≤ 16 := by
  simp only [tensB, Bool.and_eq_true] at ht
  obtain ⟨a1, a2, a3, a4, -⟩ := shapeB_yes ht.1
  exact ⟨a1, a2, a3, a4⟩
set_option maxHeartbeats 1000000 in
theorem refResize_no (H W C : Int) (A : Option Addr) (n c : Nat) (ht : tensB H W C n = true) (p z : Int) (p1 : -4 ≤ p) (p2 : p ≤ 4) (hs : shapeB (H + 2 * p) (W + 2 * p) C = false) (w : World) :
    Calls Try.prog 11 #[.agg #[.int .i64 H, .int .i64 W, .int .i64 C, .slice A n c], .int .i64 p, .int .i8 z] w fun e w' => e = .returned (.tuple #[.agg #[.int .i64 0, .int .i64 0, .int .i64 0, .slice none 0 0], .int .i64 5]) ∧ Below w.heap.size w w' := by
  obtain ⟨h1, h2, h3, h4⟩ := tens_bd ht
  have HE := Lib.hid (elemsZ_no hs)
  clear ht hs
  go_enter Try.func11, Try.ntmps11
  go_wp2_with (go_at_call 19; (refine (refElems_to (H + 2 * p) (W + 2 * p) C 0 HE.out _).mono ?_); rintro e w1 ⟨rfl, hb⟩; (have HB := Lib.hid (Below.trans ((((Below.refl w.heap.size w).alloc (Nat.le_refl _) _).alloc (by simp) _).alloc (by simp; omega) _) (hb.mono (by simp; omega)))); (have hz1 : w.heap.size + 3 ≤ w1.heap.size := by have := hb.size; simp at this; omega); obtain ⟨hc1, hf1⟩ := Kit.bcell hb; clear hb)
  refine bodyPost_ret (Kit.results_ct rfl _ _ (w.heap.size + 1) 0 [.int .i64 0, .int .i64 0, .int .i64 0, .slice none 0 0] _ rfl (range_4 (by go_cell) (by go_cell) (by go_cell) (by go_cell)) Try.underlying26 rfl (by kernel_rfl)) rfl ?_
  exact ⟨rfl, (((HB.out.setCell (p := ⟨w.heap.size + 1, 0, none⟩) (by simp) _).setCell (p := ⟨w.heap.size + 1, 1, none⟩) (by simp) _).setCell (p := ⟨w.heap.size + 1, 2, none⟩) (by simp) _).setCell (p := ⟨w.heap.size + 1, 3, none⟩) (by simp) _⟩
set_option maxHeartbeats 1000000 in
theorem refResize_yes (H W C : Int) (A : Option Addr) (zs : List Int) (n c : Nat) (hn : zs.length = n) (ht : tensB H W C n = true) (p z : Int) (p1 : -4 ≤ p) (p2 : p ≤ 4) (hs : shapeB (H + 2 * p) (W + 2 * p) C = true)
    (a b d : Nat) (hU : H + 2 * p = (a : Int)) (hV : W + 2 * p = (b : Int)) (hC : C = (d : Int)) (m : Nat) (hm : a * b * d = m) (F : Nat → Int) (hF : ∀ i j k : Nat, i < a → j < b → k < d → pixZ zs H W C ((i : Int) - p) ((j : Int) - p) (k : Int) z = F ((i * b + j) * d + k))
    {B : Nat} (w : World) (hB : B ≤ w.heap.size) (hr : Kit.Rd w B A (I8s zs)) :
    Calls Try.prog 11 #[.agg #[.int .i64 H, .int .i64 W, .int .i64 C, .slice A n c], .int .i64 p, .int .i8 z] w (Made w (H + 2 * p) (W + 2 * p) C m (rowL F m) (.int .i64 0)) := by
  obtain ⟨h1, h2, h3, h4⟩ := tens_bd ht
  obtain ⟨s1, s2, s3, s4, s5, s6, s7⟩ := shapeB_yes hs
  have hmI : (H + 2 * p) * (W + 2 * p) * C = (m : Int) := by rw [hU, hV, hC, ← hm]; simp
  have hm2 : m ≤ 1024 := by omega
  have hm1 : (m : Int) ≠ 0 := by
    have := (prod_bd s1 s2 s3 s4 s5 s6).1
    omega
  have hm3 : ((m : Int) == 0) = false := by simpa using hm1
  have ha : a ≤ 16 := by omega
  have hb0 : b ≤ 16 := by omega
  have hd : d ≤ 1024 := by omega
  have HE := Lib.hid (show elemsZ (H + 2 * p) (W + 2 * p) C = (m : Int) by rw [elemsZ_yes hs]; exact hmI)
  have HN := Lib.hid hn
  have HT := Lib.hid ht
  have HU := Lib.hid hU
  have HV := Lib.hid hV
  have HC := Lib.hid hC
  have HM := Lib.hid hm
  have HF := Lib.hid hF
  have HR := Lib.hid hr
  clear hn ht hU hV hC hm hF hr hs hmI s1 s2 s3 s4 s5 s6 s7 hm1
  go_enter Try.func11, Try.ntmps11
  go_wp2_with (first
    | (go_at_call 19; (refine (refElems_to (H + 2 * p) (W + 2 * p) C m HE.out _).mono ?_); rintro e w1 ⟨rfl, hb⟩; (have HB := Lib.hid (Below.trans ((((Below.refl w.heap.size w).alloc (Nat.le_refl _) _).alloc (by simp) _).alloc (by simp; omega) _) (hb.mono (by simp; omega)))); (have hz1 : w.heap.size + 3 ≤ w1.heap.size := by have := hb.size; simp at this; omega); (have hq1 : w.heap.size + 1 < w1.heap.size := by omega); obtain ⟨hc1, hf1⟩ := Kit.bcell hb; clear hb)
    | (go_at_call 14; (refine (refMove_to (H + 2 * p) (W + 2 * p) H W C A zs n c HN.out HT.out a b d HU.out HV.out HC.out ha hb0 hd m HM.out hm2 p p z (by omega) (by omega) (by omega) (by omega) F HF.out (B := B) _ (by omega) (HR.out.below (HB.out.mono hB))).mono ?_); rintro e w2 ⟨v2, rfl, ho2, hb2⟩; obtain ⟨A2, c2, rfl, -, -, -⟩ := Kit.own_rd ho2; (have HO := Lib.hid (Kit.own_base ho2 (show w.heap.size + 3 ≤ w1.heap.size by omega))); (have HB2 := Lib.hid (HB.out.trans (hb2.mono (by omega)))); (have hz2 : w.heap.size + 3 ≤ w2.heap.size := Nat.le_trans hz1 hb2.size); obtain ⟨hc2, hf2⟩ := Kit.bcell hb2; clear hb2 ho2))
  refine bodyPost_ret (Kit.results_ct rfl _ _ (w.heap.size + 1) 0 [.int .i64 (H + 2 * p), .int .i64 (W + 2 * p), .int .i64 C, .slice A2 m c2] _ rfl (range_4 (by go_cell) (by go_cell) (by go_cell) (by go_cell)) Try.underlying26 rfl (by kernel_rfl)) rfl ?_
  refine ⟨_, rfl, Kit.own_base (own_set (own_set (own_set (own_set HO.out _ _ ?_) _ _ ?_) _ _ ?_) _ _ ?_) ?_, ?_⟩
  any_goals (first | omega | (simp; done) | (simp; omega))
  exact (((HB2.out.setCell (p := ⟨w.heap.size + 1, 0, none⟩) (by simp) _).setCell (p := ⟨w.heap.size + 1, 1, none⟩) (by simp) _).setCell (p := ⟨w.heap.size + 1, 2, none⟩) (by simp) _).setCell (p := ⟨w.heap.size + 1, 3, none⟩) (by simp) _
end Go.Proofs.Ytgoonenkcikkaaa.CPad
