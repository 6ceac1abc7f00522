/- For every row of numbers of 16 bits, all three weights, all four numbers and every integer: the law WheelSlides answers true (the code's numbers of a row, of four numbers, and how many times four there are, are the document's; and the fixed calls answer as they must), and nothing that was there before the call has turned. No conditions. -/
import Derived.Test.YtbegabagokapoaaWheelKnown
import Derived.Deep.RegionHeld3
import Derived.Deep.CutRange
namespace Go.Proofs.Ytbegabagokapoaa.lawWheelSlides
open Go Go.ChangeShapes Go.WideShapes Go.ChangeAt Go.RowKit
open FloatNum CFour CWheel
set_option linter.unusedVariables false

theorem four_list (a b c d x y z : Int) : slideF [a, b, c, d] x y z 0 = a * x + b * y + c * z ∧ slideF [a, b, c, d] x y z 1 = b * x + c * y + d * z := ⟨rfl, rfl⟩
theorem four_wf {a b c d : Int} (ha : (Lit.int .i16 a).wf = true) (hb : (Lit.int .i16 b).wf = true) (hc : (Lit.int .i16 c).wf = true) (hd : (Lit.int .i16 d).wf = true) : ∀ v ∈ [a, b, c, d], (Lit.int .i16 v).wf = true := by
  intro v hv
  simp at hv
  rcases hv with rfl | rfl | rfl | rfl <;> assumption
theorem two_cells {w : World} {base : Nat} {v : Value} {F : Nat → Int} (h : w.ownsRow base 2 1 v 2 (I64v (nums F 2))) : ∃ g c, v = .slice (some ⟨g, 0, none⟩) 2 c ∧ g < w.heap.size ∧ w.cell? ⟨g, 0, none⟩ = some (.int .i64 (F 0)) ∧ w.cell? ⟨g, 1, none⟩ = some (.int .i64 (F 1)) := by
  obtain ⟨g, c, rfl, _, _, _, hr⟩ := Kit.own_form h (by omega)
  obtain ⟨b, o, e, hb, hc⟩ := hr.plain (by simp [nums])
  cases e
  exact ⟨_, c, rfl, hb, hc 0 _ rfl, hc 1 _ rfl⟩
set_option maxHeartbeats 8000000 in
theorem walk {w : World} (A : Option Addr) (xs : List Int) (cp : Nat) (hc : xs.length ≤ cp) (hcm : cp ≤ maxLen) (hw8 : ∀ n ∈ xs, (Lit.int .i16 n).wf = true) (hr : Kit.Rd w w.heap.size A (xs.map (.int .i16)))
    (x : Int) (wx : (Lit.int .i8 x).wf = true) (y : Int) (wy : (Lit.int .i8 y).wf = true) (z : Int) (wz : (Lit.int .i8 z).wf = true) (a : Int) (wa : (Lit.int .i16 a).wf = true) (b : Int) (wb : (Lit.int .i16 b).wf = true) (c : Int) (wc : (Lit.int .i16 c).wf = true) (d : Int) (wd : (Lit.int .i16 d).wf = true) (n : Int) (wn : (Lit.int .i64 n).wf = true) :
    Calls Try.prog 3 #[.slice A xs.length cp, .agg #[.int .i8 x, .int .i8 y, .int .i8 z], .agg #[.int .i16 a, .int .i16 b, .int .i16 c, .int .i16 d], .int .i64 n] w fun e w' => e = .returned (.bool true) ∧ Below w.heap.size w w' := by
  obtain ⟨N, hN⟩ : ∃ N, xs.length = N := ⟨_, rfl⟩
  rw [hN] at hc ⊢
  by_cases hl : N ≤ 200
  · have hli : ¬ (N : Int) > 200 := by omega
    obtain ⟨n1, n2⟩ : -9223372036854775808 ≤ n ∧ n ≤ 9223372036854775807 := by simpa [Lit.wf, IntKind.min, IntKind.max, IntKind.signed, IntKind.bits] using wn
    obtain ⟨bq, hbq⟩ : ∃ bq : Int, (if n < 3 then 0 else (n - 1) / 2) = bq := ⟨_, rfl⟩
    obtain ⟨p, hp⟩ : ∃ p, a * x + b * y + c * z = p := ⟨_, rfl⟩
    obtain ⟨q, hq⟩ : ∃ q, b * x + c * y + d * z = q := ⟨_, rfl⟩
    have HN := Lib.hid hN
    have HWF := Lib.hid hw8
    have HR := Lib.hid hr
    have HX := Lib.hid (inW wx)
    have HY := Lib.hid (inW wy)
    have HZ := Lib.hid (inW wz)
    have HA := Lib.hid (in16 wa)
    have HB4 := Lib.hid (in16 wb)
    have HC := Lib.hid (in16 wc)
    have HD := Lib.hid (in16 wd)
    have H4 := Lib.hid (four_wf wa wb wc wd)
    have HP := Lib.hid hp
    have HQ := Lib.hid hq
    have HBQ := Lib.hid hbq.symm
    have HNB := Lib.hid (And.intro n1 n2)
    have HCM := Lib.hid hcm
    clear hN hw8 hr wx wy wz wa wb wc wd wn hp hq hcm
    by_cases hn : n > 2
    · rw [if_neg (by omega)] at hbq
      obtain ⟨hh, hhh⟩ : ∃ hh : Int, n / 2 = hh := ⟨_, rfl⟩
      obtain ⟨rr, hrr⟩ : ∃ rr : Int, n % 2 = rr := ⟨_, rfl⟩
      have e1 : n.tdiv 2 = hh := by rw [← hhh]; exact Int.tdiv_eq_ediv_of_nonneg (by omega)
      have e2 : n.tmod 2 = rr := by rw [← hrr]; exact Int.tmod_eq_emod_of_nonneg (by omega)
      have e3 : IntKind.i64.wrap hh = hh := IntWalk.i64_in _ (by omega)
      have e4 : IntKind.i64.wrap (hh - 1) = hh - 1 := IntWalk.i64_in _ (by omega)
      have e5 : IntKind.i64.wrap rr = rr := IntWalk.i64_in _ (by omega)
      have e6 : IntKind.i64.wrap (hh - 1 + rr) = bq := by rw [IntWalk.i64_in _ (by omega)]; omega
      have e7 : n % 2 = rr := hrr
      clear hbq hhh hrr n1 n2
      go_enter Try.func3, Try.ntmps3
      go_upto_region 3 with fail
      have hT : Three w.heap.size (.int .i8 x) (.int .i8 y) (.int .i8 z) ((w.alloc (.cells #[.int .i8 x, .int .i8 y, .int .i8 z] 24)).alloc (.cells #[.int .i16 a, .int .i16 b, .int .i16 c, .int .i16 d] 26)) := ⟨by go_cell, by go_cell, by go_cell, by simp; omega⟩
      have hF : Four (w.heap.size + 1) (fun i => .int .i16 (l4 a b c d i)) ((w.alloc (.cells #[.int .i8 x, .int .i8 y, .int .i8 z] 24)).alloc (.cells #[.int .i16 a, .int .i16 b, .int .i16 c, .int .i16 d] 26)) := by
        have h := Four.box (w.alloc (.cells #[.int .i8 x, .int .i8 y, .int .i8 z] 24)) (fun i => .int .i16 (l4 a b c d i)) 26
        have e : (w.alloc (.cells #[.int .i8 x, .int .i8 y, .int .i8 z] 24)).heap.size = w.heap.size + 1 := by simp
        rw [e] at h; exact h
      have hB : Below w.heap.size w ((w.alloc (.cells #[.int .i8 x, .int .i8 y, .int .i8 z] 24)).alloc (.cells #[.int .i16 a, .int .i16 b, .int .i16 c, .int .i16 d] 26)) := ((Below.refl _ _).alloc (Nat.le_refl _) _).alloc (by simp) _
      generalize ((w.alloc (.cells #[.int .i8 x, .int .i8 y, .int .i8 z] 24)).alloc (.cells #[.int .i16 a, .int .i16 b, .int .i16 c, .int .i16 d] 26)) = w1 at hT hF hB ⊢
      have HB1 := Lib.hid hB
      have HT1 := Lib.hid hT
      have HF1 := Lib.hid hF
      obtain ⟨t0, t1, t2, t3⟩ := hT
      have f0 : w1.cell? ⟨w.heap.size + 1, 0, none⟩ = some (.int .i16 a) := hF.1 0 (by omega)
      have f1 : w1.cell? ⟨w.heap.size + 1, 1, none⟩ = some (.int .i16 b) := hF.1 1 (by omega)
      have f2 : w1.cell? ⟨w.heap.size + 1, 2, none⟩ = some (.int .i16 c) := hF.1 2 (by omega)
      have f3 : w1.cell? ⟨w.heap.size + 1, 3, none⟩ = some (.int .i16 d) := hF.1 3 (by omega)
      clear hF hB
      go_upto_region 4 with (go_at_call 7; refine (refSlide_to (some ⟨w1.heap.size, 0, none⟩) [a, b, c, d] 4 4 2 rfl rfl (by decide) H4.out x y z HX.out HY.out HZ.out _ rfl _ (Nat.le_refl _) (Kit.Rd.new w1 [.int .i16 a, .int .i16 b, .int .i16 c, .int .i16 d] 25 (by simp))).mono ?_; rintro e2 w2 ⟨v, rfl, hown, hbb⟩; obtain ⟨gt, ct, rfl, hgt, hv0, hv1⟩ := two_cells hown; have hb2 : Below w1.heap.size w1 w2 := ((Below.refl w1.heap.size w1).alloc (Nat.le_refl _) _).trans (hbb.mono (by simp)); have HV := Lib.hid (And.intro hgt (And.intro hv0 hv1)); replace HT1 := Lib.hid (HT1.out.below hb2 HT1.out.2.2.2); replace HF1 := Lib.hid (HF1.out.below hb2 HF1.out.2.2); replace HB1 := Lib.hid (HB1.out.trans (hb2.mono HB1.out.size)); clear hown hbb hb2 hgt hv0 hv1 t0 t1 t2 t3 f0 f1 f2 f3)
      obtain ⟨t0, t1, t2, t3⟩ := HT1.out
      have f0 : w2.cell? ⟨w.heap.size + 1, 0, none⟩ = some (.int .i16 a) := HF1.out.1 0 (by omega)
      have f1 : w2.cell? ⟨w.heap.size + 1, 1, none⟩ = some (.int .i16 b) := HF1.out.1 1 (by omega)
      have f2 : w2.cell? ⟨w.heap.size + 1, 2, none⟩ = some (.int .i16 c) := HF1.out.1 2 (by omega)
      have f3 : w2.cell? ⟨w.heap.size + 1, 3, none⟩ = some (.int .i16 d) := HF1.out.1 3 (by omega)
      go_upto_region 5 with (first
        | (go_at_call 8; refine (two_to a b c d x y z HA.out HB4.out HC.out HD.out HX.out HY.out HZ.out p q HP.out HQ.out _).mono ?_; rintro e3 w3' ⟨rfl, hbb⟩; replace HT1 := Lib.hid (HT1.out.below hbb HT1.out.2.2.2); replace HB1 := Lib.hid (HB1.out.trans (hbb.mono HB1.out.size)); replace HV := Lib.hid (And.intro (Nat.lt_of_lt_of_le HV.out.1 hbb.size) (And.intro ((hbb.cell (p := ⟨gt, 0, none⟩) HV.out.1).trans HV.out.2.1) ((hbb.cell (p := ⟨gt, 1, none⟩) HV.out.1).trans HV.out.2.2))); clear hbb t0 t1 t2 t3 f0 f1 f2 f3 HF1)
        | (refine wpList_store_mid rfl 30 (.tmp 10) (.tmp 29) rfl w3'.heap.size 0 #[.int .i64 p, .int .i64 q] rfl rfl (Two.new w3' (.int .i64 0) (.int .i64 0) 30).there (by kernel_rfl) (one2 _ _) ?_; change wpList _ _ _ _ _ (CFour.set2 w3'.heap.size (.int .i64 p) (.int .i64 q) (w3'.alloc (.cells #[.int .i64 0, .int .i64 0] 30)))))
      have hal : Below w3'.heap.size w3' (CFour.set2 w3'.heap.size (.int .i64 p) (.int .i64 q) (w3'.alloc (.cells #[.int .i64 0, .int .i64 0] 30))) := below_set2 ((Below.refl w3'.heap.size w3').alloc (Nat.le_refl _) (.cells #[.int .i64 0, .int .i64 0] 30)) (Nat.le_refl _) _ _
      have hG := (Two.new w3' (.int .i64 0) (.int .i64 0) 30).set2 (.int .i64 p) (.int .i64 q)
      replace HT1 := Lib.hid (HT1.out.below hal HT1.out.2.2.2)
      replace HB1 := Lib.hid (HB1.out.trans (hal.mono HB1.out.size))
      replace HV := Lib.hid (And.intro (Nat.lt_of_lt_of_le HV.out.1 hal.size) (And.intro ((hal.cell (p := ⟨gt, 0, none⟩) HV.out.1).trans HV.out.2.1) ((hal.cell (p := ⟨gt, 1, none⟩) HV.out.1).trans HV.out.2.2)))
      generalize CFour.set2 w3'.heap.size (.int .i64 p) (.int .i64 q) (w3'.alloc (.cells #[.int .i64 0, .int .i64 0] 30)) = w4 at hG HT1 HB1 HV ⊢
      generalize w3'.heap.size = gg at hG ⊢
      have HG := Lib.hid hG
      clear hal hG
      go_upto_region 8 with fail
      clear e1 e2 e3 e4 e5 e6 e7 hn hli
      rw [(four_list a b c d x y z).1, (four_list a b c d x y z).2, HP.out, HQ.out] at HV
      refine wp_region_held_drew (S := fun W => Three w.heap.size (.int .i8 x) (.int .i8 y) (.int .i8 z) W ∧ Two gg (.int .i64 p) (.int .i64 q) W ∧ W.cell? ⟨gt, 0, none⟩ = some (.int .i64 p) ∧ W.cell? ⟨gt, 1, none⟩ = some (.int .i64 q)) (by kernel_rfl) ⟨HT1.out.drew, HG.out.drew, HV.out.2.1, HV.out.2.2⟩ (fun hHeld => ?_)
      replace HT1 := Lib.hid HT1.out.drew
      replace HG := Lib.hid HG.out.drew
      replace HB1 := Lib.hid HB1.out.drew
      replace HV : Hid (gt < w4.drew.heap.size ∧ w4.drew.cell? ⟨gt, 0, none⟩ = some (.int .i64 p) ∧ w4.drew.cell? ⟨gt, 1, none⟩ = some (.int .i64 q)) := HV
      generalize w4.drew = W0 at HT1 HG HB1 HV hHeld ⊢
      refine wpAnyH_take (i := 0) (oi := ({ dst := some 38, op := Op.move (Operand.tmp 0), type := 22, pos := "law.go:25", after := #[], guard := none } : Oper)) (v := ?_) rfl (by kernel_rfl) (by kernel_rfl) (by kernel_rfl) (fun _ _ _ h => h) (Or.inl ⟨by rfl, ?_⟩) (by assumption) ?_
      rotate_left
      · intro wS hSw
        first
          | (go_simp; done)
          | (go_simp; with_reducible rfl)
      try simp only [Act.put, List.setIfInBounds_toArray, List.set_cons_zero, List.set_cons_succ]
      refine wpAnyH_take (i := 1) (oi := ({ dst := some 39, op := Op.load 24 (Operand.tmp 5), type := 24, pos := "law.go:25", after := #[], guard := none } : Oper)) (v := ?_) rfl (by kernel_rfl) (by kernel_rfl) (by kernel_rfl) (fun _ _ _ h => h) (Or.inl ⟨by rfl, ?_⟩) (by assumption) ?_
      rotate_left
      · intro wS hSw
        obtain ⟨⟨q1, q2, q3, q4⟩, ⟨q5, q6, q7, q8⟩, q9, q10⟩ := hSw
        first
          | (go_simp; done)
          | (go_simp; with_reducible rfl)
      try simp only [Act.put, List.setIfInBounds_toArray, List.set_cons_zero, List.set_cons_succ]
      refine wpAnyH_take (i := 3) (oi := ({ dst := some 41, op := Op.move (Operand.tmp 0), type := 22, pos := "law.go:25", after := #[], guard := none } : Oper)) (v := ?_) rfl (by kernel_rfl) (by kernel_rfl) (by kernel_rfl) (fun _ _ _ h => h) (Or.inl ⟨by rfl, ?_⟩) (by assumption) ?_
      rotate_left
      · intro wS hSw
        first
          | (go_simp; done)
          | (go_simp; with_reducible rfl)
      try simp only [Act.put, List.setIfInBounds_toArray, List.set_cons_zero, List.set_cons_succ]
      refine wpAnyH_take (i := 4) (oi := ({ dst := some 42, op := Op.load 24 (Operand.tmp 5), type := 24, pos := "law.go:25", after := #[], guard := none } : Oper)) (v := ?_) rfl (by kernel_rfl) (by kernel_rfl) (by kernel_rfl) (fun _ _ _ h => h) (Or.inl ⟨by rfl, ?_⟩) (by assumption) ?_
      rotate_left
      · intro wS hSw
        obtain ⟨⟨q1, q2, q3, q4⟩, ⟨q5, q6, q7, q8⟩, q9, q10⟩ := hSw
        first
          | (go_simp; done)
          | (go_simp; with_reducible rfl)
      try simp only [Act.put, List.setIfInBounds_toArray, List.set_cons_zero, List.set_cons_succ]
      refine wpAnyH_ready (rs := [2]) (by kernel_rfl) (by simp) ?_
      refine AllReadyH.cons (o := ({ dst := some 40, op := Op.call { callee := Callee.value (Operand.func 10), args := #[Operand.tmp 38, Operand.tmp 39], argTypes := #[22, 24] }, type := 28, pos := "law.go:25", after := #[{ on := 0, ground := Ground.data }, { on := 1, ground := Ground.data }], guard := none } : Oper)) rfl (fun K hK => ?_) (AllReadyH.nil)
      go_simp
      go_at_call 10
      refine (slide_to A xs N cp (N - 2) HN.out hc HCM.out rfl (by omega) HWF.out x y z HX.out HY.out HZ.out _ rfl _ ((HR.out.below HB1.out).more HB1.out.size)).mono ?_
      rintro e Wk1 ⟨v1, rfl, hown1, hb1⟩
      obtain ⟨A1, c1, rfl, hk1, -, hrd1⟩ := Kit.own_rd hown1
      have HR1 := Lib.hid hrd1
      have HZ1 := Lib.hid hb1.size
      clear hown1 hrd1 hk1
      have hbK := hb1
      replace HT1 := Lib.hid (HT1.out.below hbK HT1.out.2.2.2)
      replace HG := Lib.hid (HG.out.below hbK HG.out.2.2.2)
      replace HB1 := Lib.hid (HB1.out.trans (hbK.mono HB1.out.size))
      replace HV := Lib.hid (And.intro (Nat.lt_of_lt_of_le HV.out.1 hbK.size) (And.intro ((hbK.cell (p := ⟨gt, 0, none⟩) HV.out.1).trans HV.out.2.1) ((hbK.cell (p := ⟨gt, 1, none⟩) HV.out.1).trans HV.out.2.2)))
      clear hbK hHeld
      dsimp only
      refine hK.out _ _ ?_ (fun hHeld => ?_)
      · exact ⟨HT1.out, HG.out, HV.out.2.1, HV.out.2.2⟩
      clear hK K
      try simp only [Act.put, List.setIfInBounds_toArray, List.set_cons_zero, List.set_cons_succ]
      refine wpAnyH_ready (rs := [5]) (by kernel_rfl) (by simp) ?_
      refine AllReadyH.cons (o := ({ dst := some 43, op := Op.call { callee := Callee.value (Operand.func 7), args := #[Operand.tmp 41, Operand.tmp 42], argTypes := #[22, 24] }, type := 28, pos := "law.go:25", after := #[{ on := 3, ground := Ground.data }, { on := 4, ground := Ground.data }, { on := 2, ground := Ground.chain }], guard := none } : Oper)) rfl (fun K hK => ?_) (AllReadyH.nil)
      go_simp
      go_at_call 7
      refine (refSlide_to A xs N cp (N - 2) HN.out rfl (by omega) HWF.out x y z HX.out HY.out HZ.out _ rfl _ (Nat.le_refl _) ((HR.out.below HB1.out).more HB1.out.size)).mono ?_
      rintro e Wk2 ⟨v2, rfl, hown2, hb1⟩
      obtain ⟨A2, c2, rfl, hk2, -, hrd2⟩ := Kit.own_rd hown2
      have HR2 := Lib.hid hrd2
      replace HR1 := Lib.hid (HR1.out.below hb1)
      clear hown2 hrd2 hk2
      have hbK := hb1
      replace HT1 := Lib.hid (HT1.out.below hbK HT1.out.2.2.2)
      replace HG := Lib.hid (HG.out.below hbK HG.out.2.2.2)
      replace HB1 := Lib.hid (HB1.out.trans (hbK.mono HB1.out.size))
      replace HV := Lib.hid (And.intro (Nat.lt_of_lt_of_le HV.out.1 hbK.size) (And.intro ((hbK.cell (p := ⟨gt, 0, none⟩) HV.out.1).trans HV.out.2.1) ((hbK.cell (p := ⟨gt, 1, none⟩) HV.out.1).trans HV.out.2.2)))
      clear hbK hHeld
      dsimp only
      refine hK.out _ _ ?_ (fun hHeld => ?_)
      · exact ⟨HT1.out, HG.out, HV.out.2.1, HV.out.2.2⟩
      clear hK K
      try simp only [Act.put, List.setIfInBounds_toArray, List.set_cons_zero, List.set_cons_succ]
      refine wpAnyH_ready (rs := [6]) (by kernel_rfl) (by simp) ?_
      refine AllReadyH.cons (o := ({ dst := some 44, op := Op.call { callee := Callee.value (Operand.func 9), args := #[Operand.tmp 40, Operand.tmp 43], argTypes := #[28, 28] }, type := 4, pos := "law.go:25", after := #[{ on := 2, ground := Ground.data }, { on := 5, ground := Ground.data }, { on := 5, ground := Ground.chain }], guard := none } : Oper)) rfl (fun K hK => ?_) (AllReadyH.nil)
      go_simp
      go_at_call 9
      refine (same_yes A1 A2 (nums (slideF xs x y z) (N - 2)) (N - 2) c1 (N - 2) c2 (nums_len _ _) rfl (by omega) _ HR1.out HR2.out).mono ?_
      rintro e Wk3 ⟨rfl, hb1⟩
      have hbK := hb1
      replace HT1 := Lib.hid (HT1.out.below hbK HT1.out.2.2.2)
      replace HG := Lib.hid (HG.out.below hbK HG.out.2.2.2)
      replace HB1 := Lib.hid (HB1.out.trans (hbK.mono HB1.out.size))
      replace HV := Lib.hid (And.intro (Nat.lt_of_lt_of_le HV.out.1 hbK.size) (And.intro ((hbK.cell (p := ⟨gt, 0, none⟩) HV.out.1).trans HV.out.2.1) ((hbK.cell (p := ⟨gt, 1, none⟩) HV.out.1).trans HV.out.2.2)))
      clear hbK hHeld
      dsimp only
      refine hK.out _ _ ?_ (fun hHeld => ?_)
      · exact ⟨HT1.out, HG.out, HV.out.2.1, HV.out.2.2⟩
      clear hK K
      try simp only [Act.put, List.setIfInBounds_toArray, List.set_cons_zero, List.set_cons_succ]
      refine wpAnyH_take (i := 7) (oi := ({ dst := some 45, op := Op.move (Operand.tmp 44), type := 4, pos := "law.go:25", after := #[{ on := 6, ground := Ground.data }, { on := 6, ground := Ground.chain }], guard := none } : Oper)) (v := ?_) rfl (by kernel_rfl) (by kernel_rfl) (by kernel_rfl) (fun _ _ _ h => h) (Or.inl ⟨by rfl, ?_⟩) (by assumption) ?_
      rotate_left
      · intro wS hSw
        first
          | (go_simp; done)
          | (go_simp; with_reducible rfl)
      try simp only [Act.put, List.setIfInBounds_toArray, List.set_cons_zero, List.set_cons_succ]
      refine wpAnyH_take (i := 8) (oi := ({ dst := some 46, op := Op.indexAddr 30 (Operand.tmp 10) (Operand.const (Value.int IntKind.i64 0)), type := 0, pos := "law.go:25", after := #[{ on := 7, ground := Ground.guard }], guard := some (7, true) } : Oper)) (v := ?_) rfl (by kernel_rfl) (by kernel_rfl) (by kernel_rfl) (fun _ _ _ h => h) (Or.inl ⟨by rfl, ?_⟩) (by assumption) ?_
      rotate_left
      · intro wS hSw
        first
          | (go_simp; done)
          | (go_simp; with_reducible rfl)
      try simp only [Act.put, List.setIfInBounds_toArray, List.set_cons_zero, List.set_cons_succ]
      refine wpAnyH_take (i := 9) (oi := ({ dst := some 47, op := Op.load 2 (Operand.tmp 46), type := 2, pos := "law.go:25", after := #[{ on := 8, ground := Ground.data }, { on := 7, ground := Ground.guard }], guard := some (7, true) } : Oper)) (v := ?_) rfl (by kernel_rfl) (by kernel_rfl) (by kernel_rfl) (fun _ _ _ h => h) (Or.inl ⟨by rfl, ?_⟩) (by assumption) ?_
      rotate_left
      · intro wS hSw
        obtain ⟨⟨q1, q2, q3, q4⟩, ⟨q5, q6, q7, q8⟩, q9, q10⟩ := hSw
        first
          | (go_simp; done)
          | (go_simp; with_reducible rfl)
      try simp only [Act.put, List.setIfInBounds_toArray, List.set_cons_zero, List.set_cons_succ]
      refine wpAnyH_take (i := 10) (oi := ({ dst := some 48, op := Op.move (Operand.tmp 9), type := 28, pos := "law.go:25", after := #[{ on := 7, ground := Ground.guard }], guard := some (7, true) } : Oper)) (v := ?_) rfl (by kernel_rfl) (by kernel_rfl) (by kernel_rfl) (fun _ _ _ h => h) (Or.inl ⟨by rfl, ?_⟩) (by assumption) ?_
      rotate_left
      · intro wS hSw
        first
          | (go_simp; done)
          | (go_simp; with_reducible rfl)
      try simp only [Act.put, List.setIfInBounds_toArray, List.set_cons_zero, List.set_cons_succ]
      refine wpAnyH_take (i := 11) (oi := ({ dst := some 49, op := Op.indexAddr 28 (Operand.tmp 48) (Operand.const (Value.int IntKind.i64 0)), type := 0, pos := "law.go:25", after := #[{ on := 10, ground := Ground.data }, { on := 7, ground := Ground.guard }], guard := some (7, true) } : Oper)) (v := ?_) rfl (by kernel_rfl) (by kernel_rfl) (by kernel_rfl) (fun _ _ _ h => h) (Or.inl ⟨by rfl, ?_⟩) (by assumption) ?_
      rotate_left
      · intro wS hSw
        first
          | (go_simp; done)
          | (go_simp; with_reducible rfl)
      try simp only [Act.put, List.setIfInBounds_toArray, List.set_cons_zero, List.set_cons_succ]
      refine wpAnyH_take (i := 12) (oi := ({ dst := some 50, op := Op.load 2 (Operand.tmp 49), type := 2, pos := "law.go:25", after := #[{ on := 11, ground := Ground.data }, { on := 7, ground := Ground.guard }], guard := some (7, true) } : Oper)) (v := ?_) rfl (by kernel_rfl) (by kernel_rfl) (by kernel_rfl) (fun _ _ _ h => h) (Or.inl ⟨by rfl, ?_⟩) (by assumption) ?_
      rotate_left
      · intro wS hSw
        obtain ⟨⟨q1, q2, q3, q4⟩, ⟨q5, q6, q7, q8⟩, q9, q10⟩ := hSw
        first
          | (go_simp; done)
          | (go_simp; with_reducible rfl)
      try simp only [Act.put, List.setIfInBounds_toArray, List.set_cons_zero, List.set_cons_succ]
      refine wpAnyH_take (i := 13) (oi := ({ dst := some 51, op := Op.binOp BinOp.eql 2 (Operand.tmp 47) (Operand.tmp 50) 2, type := 4, pos := "law.go:25", after := #[{ on := 9, ground := Ground.data }, { on := 12, ground := Ground.data }, { on := 7, ground := Ground.guard }], guard := some (7, true) } : Oper)) (v := ?_) rfl (by kernel_rfl) (by kernel_rfl) (by kernel_rfl) (fun _ _ _ h => h) (Or.inl ⟨by rfl, ?_⟩) (by assumption) ?_
      rotate_left
      · intro wS hSw
        first
          | (go_simp; done)
          | (go_simp; with_reducible rfl)
      try simp only [Act.put, List.setIfInBounds_toArray, List.set_cons_zero, List.set_cons_succ]
      refine wpAnyH_take (i := 14) (oi := ({ dst := some 52, op := Op.pick (Operand.tmp 45) (Operand.tmp 51) (Operand.const (Value.bool false)), type := 4, pos := "law.go:25", after := #[{ on := 7, ground := Ground.data }, { on := 13, ground := Ground.data }], guard := none } : Oper)) (v := ?_) rfl (by kernel_rfl) (by kernel_rfl) (by kernel_rfl) (fun _ _ _ h => h) (Or.inl ⟨by rfl, ?_⟩) (by assumption) ?_
      rotate_left
      · intro wS hSw
        first
          | (go_simp; done)
          | (go_simp; with_reducible rfl)
      try simp only [Act.put, List.setIfInBounds_toArray, List.set_cons_zero, List.set_cons_succ]
      refine wpAnyH_take (i := 15) (oi := ({ dst := some 53, op := Op.move (Operand.tmp 52), type := 4, pos := "law.go:25", after := #[{ on := 14, ground := Ground.data }, { on := 7, ground := Ground.chain }], guard := none } : Oper)) (v := ?_) rfl (by kernel_rfl) (by kernel_rfl) (by kernel_rfl) (fun _ _ _ h => h) (Or.inl ⟨by rfl, ?_⟩) (by assumption) ?_
      rotate_left
      · intro wS hSw
        first
          | (go_simp; done)
          | (go_simp; with_reducible rfl)
      try simp only [Act.put, List.setIfInBounds_toArray, List.set_cons_zero, List.set_cons_succ]
      refine wpAnyH_take (i := 16) (oi := ({ dst := some 54, op := Op.indexAddr 30 (Operand.tmp 10) (Operand.const (Value.int IntKind.i64 1)), type := 0, pos := "law.go:25", after := #[{ on := 15, ground := Ground.guard }], guard := some (15, true) } : Oper)) (v := ?_) rfl (by kernel_rfl) (by kernel_rfl) (by kernel_rfl) (fun _ _ _ h => h) (Or.inl ⟨by rfl, ?_⟩) (by assumption) ?_
      rotate_left
      · intro wS hSw
        first
          | (go_simp; done)
          | (go_simp; with_reducible rfl)
      try simp only [Act.put, List.setIfInBounds_toArray, List.set_cons_zero, List.set_cons_succ]
      refine wpAnyH_take (i := 17) (oi := ({ dst := some 55, op := Op.load 2 (Operand.tmp 54), type := 2, pos := "law.go:25", after := #[{ on := 16, ground := Ground.data }, { on := 15, ground := Ground.guard }], guard := some (15, true) } : Oper)) (v := ?_) rfl (by kernel_rfl) (by kernel_rfl) (by kernel_rfl) (fun _ _ _ h => h) (Or.inl ⟨by rfl, ?_⟩) (by assumption) ?_
      rotate_left
      · intro wS hSw
        obtain ⟨⟨q1, q2, q3, q4⟩, ⟨q5, q6, q7, q8⟩, q9, q10⟩ := hSw
        first
          | (go_simp; done)
          | (go_simp; with_reducible rfl)
      try simp only [Act.put, List.setIfInBounds_toArray, List.set_cons_zero, List.set_cons_succ]
      refine wpAnyH_take (i := 18) (oi := ({ dst := some 56, op := Op.move (Operand.tmp 9), type := 28, pos := "law.go:25", after := #[{ on := 15, ground := Ground.guard }], guard := some (15, true) } : Oper)) (v := ?_) rfl (by kernel_rfl) (by kernel_rfl) (by kernel_rfl) (fun _ _ _ h => h) (Or.inl ⟨by rfl, ?_⟩) (by assumption) ?_
      rotate_left
      · intro wS hSw
        first
          | (go_simp; done)
          | (go_simp; with_reducible rfl)
      try simp only [Act.put, List.setIfInBounds_toArray, List.set_cons_zero, List.set_cons_succ]
      refine wpAnyH_take (i := 19) (oi := ({ dst := some 57, op := Op.indexAddr 28 (Operand.tmp 56) (Operand.const (Value.int IntKind.i64 1)), type := 0, pos := "law.go:25", after := #[{ on := 18, ground := Ground.data }, { on := 15, ground := Ground.guard }], guard := some (15, true) } : Oper)) (v := ?_) rfl (by kernel_rfl) (by kernel_rfl) (by kernel_rfl) (fun _ _ _ h => h) (Or.inl ⟨by rfl, ?_⟩) (by assumption) ?_
      rotate_left
      · intro wS hSw
        first
          | (go_simp; done)
          | (go_simp; with_reducible rfl)
      try simp only [Act.put, List.setIfInBounds_toArray, List.set_cons_zero, List.set_cons_succ]
      refine wpAnyH_take (i := 20) (oi := ({ dst := some 58, op := Op.load 2 (Operand.tmp 57), type := 2, pos := "law.go:25", after := #[{ on := 19, ground := Ground.data }, { on := 15, ground := Ground.guard }], guard := some (15, true) } : Oper)) (v := ?_) rfl (by kernel_rfl) (by kernel_rfl) (by kernel_rfl) (fun _ _ _ h => h) (Or.inl ⟨by rfl, ?_⟩) (by assumption) ?_
      rotate_left
      · intro wS hSw
        obtain ⟨⟨q1, q2, q3, q4⟩, ⟨q5, q6, q7, q8⟩, q9, q10⟩ := hSw
        first
          | (go_simp; done)
          | (go_simp; with_reducible rfl)
      try simp only [Act.put, List.setIfInBounds_toArray, List.set_cons_zero, List.set_cons_succ]
      refine wpAnyH_take (i := 21) (oi := ({ dst := some 59, op := Op.binOp BinOp.eql 2 (Operand.tmp 55) (Operand.tmp 58) 2, type := 4, pos := "law.go:25", after := #[{ on := 17, ground := Ground.data }, { on := 20, ground := Ground.data }, { on := 15, ground := Ground.guard }], guard := some (15, true) } : Oper)) (v := ?_) rfl (by kernel_rfl) (by kernel_rfl) (by kernel_rfl) (fun _ _ _ h => h) (Or.inl ⟨by rfl, ?_⟩) (by assumption) ?_
      rotate_left
      · intro wS hSw
        first
          | (go_simp; done)
          | (go_simp; with_reducible rfl)
      try simp only [Act.put, List.setIfInBounds_toArray, List.set_cons_zero, List.set_cons_succ]
      refine wpAnyH_take (i := 22) (oi := ({ dst := some 60, op := Op.pick (Operand.tmp 53) (Operand.tmp 59) (Operand.const (Value.bool false)), type := 4, pos := "law.go:25", after := #[{ on := 15, ground := Ground.data }, { on := 21, ground := Ground.data }], guard := none } : Oper)) (v := ?_) rfl (by kernel_rfl) (by kernel_rfl) (by kernel_rfl) (fun _ _ _ h => h) (Or.inl ⟨by rfl, ?_⟩) (by assumption) ?_
      rotate_left
      · intro wS hSw
        first
          | (go_simp; done)
          | (go_simp; with_reducible rfl)
      try simp only [Act.put, List.setIfInBounds_toArray, List.set_cons_zero, List.set_cons_succ]
      refine wpAnyH_take (i := 23) (oi := ({ dst := some 61, op := Op.move (Operand.tmp 60), type := 4, pos := "law.go:25", after := #[{ on := 22, ground := Ground.data }, { on := 15, ground := Ground.chain }], guard := none } : Oper)) (v := ?_) rfl (by kernel_rfl) (by kernel_rfl) (by kernel_rfl) (fun _ _ _ h => h) (Or.inl ⟨by rfl, ?_⟩) (by assumption) ?_
      rotate_left
      · intro wS hSw
        first
          | (go_simp; done)
          | (go_simp; with_reducible rfl)
      try simp only [Act.put, List.setIfInBounds_toArray, List.set_cons_zero, List.set_cons_succ]
      refine wpAnyH_take (i := 24) (oi := ({ dst := some 62, op := Op.move (Operand.tmp 3), type := 3, pos := "law.go:25", after := #[{ on := 23, ground := Ground.guard }], guard := some (23, true) } : Oper)) (v := ?_) rfl (by kernel_rfl) (by kernel_rfl) (by kernel_rfl) (fun _ _ _ h => h) (Or.inl ⟨by rfl, ?_⟩) (by assumption) ?_
      rotate_left
      · intro wS hSw
        first
          | (go_simp; done)
          | (go_simp; with_reducible rfl)
      try simp only [Act.put, List.setIfInBounds_toArray, List.set_cons_zero, List.set_cons_succ]
      refine wpAnyH_take (i := 26) (oi := ({ dst := some 64, op := Op.move (Operand.tmp 11), type := 3, pos := "law.go:25", after := #[{ on := 23, ground := Ground.guard }], guard := some (23, true) } : Oper)) (v := ?_) rfl (by kernel_rfl) (by kernel_rfl) (by kernel_rfl) (fun _ _ _ h => h) (Or.inl ⟨by rfl, ?_⟩) (by assumption) ?_
      rotate_left
      · intro wS hSw
        first
          | (go_simp; done)
          | (go_simp; with_reducible rfl)
      try simp only [Act.put, List.setIfInBounds_toArray, List.set_cons_zero, List.set_cons_succ]
      refine wpAnyH_ready (rs := [25]) (by kernel_rfl) (by simp) ?_
      refine AllReadyH.cons (o := ({ dst := some 63, op := Op.call { callee := Callee.value (Operand.func 11), args := #[Operand.tmp 62], argTypes := #[3] }, type := 3, pos := "law.go:25", after := #[{ on := 24, ground := Ground.data }, { on := 23, ground := Ground.chain }, { on := 23, ground := Ground.guard }], guard := some (23, true) } : Oper)) rfl (fun K hK => ?_) (AllReadyH.nil)
      go_simp
      go_at_call 11
      refine (blocks_to n HNB.out.1 HNB.out.2 _ HBQ.out _).mono ?_
      rintro e Wk8 ⟨rfl, rfl⟩
      clear hHeld
      dsimp only
      refine hK.out _ _ ?_ (fun hHeld => ?_)
      · exact ⟨HT1.out, HG.out, HV.out.2.1, HV.out.2.2⟩
      clear hK K
      try simp only [Act.put, List.setIfInBounds_toArray, List.set_cons_zero, List.set_cons_succ]
      refine wpAnyH_take (i := 27) (oi := ({ dst := some 65, op := Op.binOp BinOp.eql 3 (Operand.tmp 63) (Operand.tmp 64) 3, type := 4, pos := "law.go:25", after := #[{ on := 25, ground := Ground.data }, { on := 26, ground := Ground.data }, { on := 23, ground := Ground.guard }], guard := some (23, true) } : Oper)) (v := ?_) rfl (by kernel_rfl) (by kernel_rfl) (by kernel_rfl) (fun _ _ _ h => h) (Or.inl ⟨by rfl, ?_⟩) (by assumption) ?_
      rotate_left
      · intro wS hSw
        first
          | (go_simp; done)
          | (go_simp; with_reducible rfl)
      try simp only [Act.put, List.setIfInBounds_toArray, List.set_cons_zero, List.set_cons_succ]
      refine wpAnyH_take (i := 28) (oi := ({ dst := some 66, op := Op.pick (Operand.tmp 61) (Operand.tmp 65) (Operand.const (Value.bool false)), type := 4, pos := "law.go:25", after := #[{ on := 23, ground := Ground.data }, { on := 27, ground := Ground.data }], guard := none } : Oper)) (v := ?_) rfl (by kernel_rfl) (by kernel_rfl) (by kernel_rfl) (fun _ _ _ h => h) (Or.inl ⟨by rfl, ?_⟩) (by assumption) ?_
      rotate_left
      · intro wS hSw
        first
          | (go_simp; done)
          | (go_simp; with_reducible rfl)
      try simp only [Act.put, List.setIfInBounds_toArray, List.set_cons_zero, List.set_cons_succ]
      refine wpAnyH_take (i := 29) (oi := ({ dst := some 67, op := Op.move (Operand.tmp 66), type := 4, pos := "law.go:25", after := #[{ on := 28, ground := Ground.data }, { on := 25, ground := Ground.chain }], guard := none } : Oper)) (v := ?_) rfl (by kernel_rfl) (by kernel_rfl) (by kernel_rfl) (fun _ _ _ h => h) (Or.inl ⟨by rfl, ?_⟩) (by assumption) ?_
      rotate_left
      · intro wS hSw
        first
          | (go_simp; done)
          | (go_simp; with_reducible rfl)
      try simp only [Act.put, List.setIfInBounds_toArray, List.set_cons_zero, List.set_cons_succ]
      refine wpAnyH_ready (rs := [30]) (by kernel_rfl) (by simp) ?_
      refine AllReadyH.cons (o := ({ dst := some 68, op := Op.call { callee := Callee.value (Operand.func 6), args := #[], argTypes := #[] }, type := 4, pos := "law.go:25", after := #[{ on := 29, ground := Ground.chain }, { on := 29, ground := Ground.guard }], guard := some (29, true) } : Oper)) rfl (fun K hK => ?_) (AllReadyH.nil)
      go_simp
      go_at_call 6
      refine (known15 _).mono ?_
      rintro e Wk4 ⟨rfl, hb1⟩
      have hbK := hb1
      replace HT1 := Lib.hid (HT1.out.below hbK HT1.out.2.2.2)
      replace HG := Lib.hid (HG.out.below hbK HG.out.2.2.2)
      replace HB1 := Lib.hid (HB1.out.trans (hbK.mono HB1.out.size))
      replace HV := Lib.hid (And.intro (Nat.lt_of_lt_of_le HV.out.1 hbK.size) (And.intro ((hbK.cell (p := ⟨gt, 0, none⟩) HV.out.1).trans HV.out.2.1) ((hbK.cell (p := ⟨gt, 1, none⟩) HV.out.1).trans HV.out.2.2)))
      clear hbK hHeld
      dsimp only
      refine hK.out _ _ ?_ (fun hHeld => ?_)
      · exact ⟨HT1.out, HG.out, HV.out.2.1, HV.out.2.2⟩
      clear hK K
      try simp only [Act.put, List.setIfInBounds_toArray, List.set_cons_zero, List.set_cons_succ]
      refine wpAnyH_take (i := 31) (oi := ({ dst := some 69, op := Op.pick (Operand.tmp 67) (Operand.tmp 68) (Operand.const (Value.bool false)), type := 4, pos := "law.go:25", after := #[{ on := 29, ground := Ground.data }, { on := 30, ground := Ground.data }], guard := none } : Oper)) (v := ?_) rfl (by kernel_rfl) (by kernel_rfl) (by kernel_rfl) (fun _ _ _ h => h) (Or.inl ⟨by rfl, ?_⟩) (by assumption) ?_
      rotate_left
      · intro wS hSw
        first
          | (go_simp; done)
          | (go_simp; with_reducible rfl)
      try simp only [Act.put, List.setIfInBounds_toArray, List.set_cons_zero, List.set_cons_succ]
      refine wpAnyH_take (i := 32) (oi := ({ dst := some 8, op := Op.assign (Operand.tmp 69), type := 4, pos := "law.go:25", after := #[{ on := 31, ground := Ground.data }, { on := 30, ground := Ground.chain }, { on := 0, ground := Ground.phase }, { on := 1, ground := Ground.phase }, { on := 2, ground := Ground.phase }, { on := 3, ground := Ground.phase }, { on := 4, ground := Ground.phase }, { on := 5, ground := Ground.phase }, { on := 6, ground := Ground.phase }, { on := 7, ground := Ground.phase }, { on := 8, ground := Ground.phase }, { on := 9, ground := Ground.phase }, { on := 10, ground := Ground.phase }, { on := 11, ground := Ground.phase }, { on := 12, ground := Ground.phase }, { on := 13, ground := Ground.phase }, { on := 14, ground := Ground.phase }, { on := 15, ground := Ground.phase }, { on := 16, ground := Ground.phase }, { on := 17, ground := Ground.phase }, { on := 18, ground := Ground.phase }, { on := 19, ground := Ground.phase }, { on := 20, ground := Ground.phase }, { on := 21, ground := Ground.phase }, { on := 22, ground := Ground.phase }, { on := 23, ground := Ground.phase }, { on := 24, ground := Ground.phase }, { on := 25, ground := Ground.phase }, { on := 26, ground := Ground.phase }, { on := 27, ground := Ground.phase }, { on := 28, ground := Ground.phase }, { on := 29, ground := Ground.phase }, { on := 30, ground := Ground.phase }, { on := 31, ground := Ground.phase }], guard := none } : Oper)) (v := ?_) rfl (by kernel_rfl) (by kernel_rfl) (by kernel_rfl) (fun _ _ _ h => h) (Or.inl ⟨by rfl, ?_⟩) (by assumption) ?_
      rotate_left
      · intro wS hSw
        first
          | (go_simp; done)
          | (go_simp; with_reducible rfl)
      try simp only [Act.put, List.setIfInBounds_toArray, List.set_cons_zero, List.set_cons_succ]
      refine wpAnyH_done (by kernel_rfl) ?_ _
      go_wp2_with fail
      go_ret
      exact ⟨rfl, HB1.out⟩
    · rw [if_pos (by omega)] at hbq
      subst hbq
      clear n1 n2
      go_enter Try.func3, Try.ntmps3
      go_upto_region 3 with fail
      have hT : Three w.heap.size (.int .i8 x) (.int .i8 y) (.int .i8 z) ((w.alloc (.cells #[.int .i8 x, .int .i8 y, .int .i8 z] 24)).alloc (.cells #[.int .i16 a, .int .i16 b, .int .i16 c, .int .i16 d] 26)) := ⟨by go_cell, by go_cell, by go_cell, by simp; omega⟩
      have hF : Four (w.heap.size + 1) (fun i => .int .i16 (l4 a b c d i)) ((w.alloc (.cells #[.int .i8 x, .int .i8 y, .int .i8 z] 24)).alloc (.cells #[.int .i16 a, .int .i16 b, .int .i16 c, .int .i16 d] 26)) := by
        have h := Four.box (w.alloc (.cells #[.int .i8 x, .int .i8 y, .int .i8 z] 24)) (fun i => .int .i16 (l4 a b c d i)) 26
        have e : (w.alloc (.cells #[.int .i8 x, .int .i8 y, .int .i8 z] 24)).heap.size = w.heap.size + 1 := by simp
        rw [e] at h; exact h
      have hB : Below w.heap.size w ((w.alloc (.cells #[.int .i8 x, .int .i8 y, .int .i8 z] 24)).alloc (.cells #[.int .i16 a, .int .i16 b, .int .i16 c, .int .i16 d] 26)) := ((Below.refl _ _).alloc (Nat.le_refl _) _).alloc (by simp) _
      generalize ((w.alloc (.cells #[.int .i8 x, .int .i8 y, .int .i8 z] 24)).alloc (.cells #[.int .i16 a, .int .i16 b, .int .i16 c, .int .i16 d] 26)) = w1 at hT hF hB ⊢
      have HB1 := Lib.hid hB
      have HT1 := Lib.hid hT
      have HF1 := Lib.hid hF
      obtain ⟨t0, t1, t2, t3⟩ := hT
      have f0 : w1.cell? ⟨w.heap.size + 1, 0, none⟩ = some (.int .i16 a) := hF.1 0 (by omega)
      have f1 : w1.cell? ⟨w.heap.size + 1, 1, none⟩ = some (.int .i16 b) := hF.1 1 (by omega)
      have f2 : w1.cell? ⟨w.heap.size + 1, 2, none⟩ = some (.int .i16 c) := hF.1 2 (by omega)
      have f3 : w1.cell? ⟨w.heap.size + 1, 3, none⟩ = some (.int .i16 d) := hF.1 3 (by omega)
      clear hF hB
      go_upto_region 4 with (go_at_call 7; refine (refSlide_to (some ⟨w1.heap.size, 0, none⟩) [a, b, c, d] 4 4 2 rfl rfl (by decide) H4.out x y z HX.out HY.out HZ.out _ rfl _ (Nat.le_refl _) (Kit.Rd.new w1 [.int .i16 a, .int .i16 b, .int .i16 c, .int .i16 d] 25 (by simp))).mono ?_; rintro e2 w2 ⟨v, rfl, hown, hbb⟩; obtain ⟨gt, ct, rfl, hgt, hv0, hv1⟩ := two_cells hown; have hb2 : Below w1.heap.size w1 w2 := ((Below.refl w1.heap.size w1).alloc (Nat.le_refl _) _).trans (hbb.mono (by simp)); have HV := Lib.hid (And.intro hgt (And.intro hv0 hv1)); replace HT1 := Lib.hid (HT1.out.below hb2 HT1.out.2.2.2); replace HF1 := Lib.hid (HF1.out.below hb2 HF1.out.2.2); replace HB1 := Lib.hid (HB1.out.trans (hb2.mono HB1.out.size)); clear hown hbb hb2 hgt hv0 hv1 t0 t1 t2 t3 f0 f1 f2 f3)
      obtain ⟨t0, t1, t2, t3⟩ := HT1.out
      have f0 : w2.cell? ⟨w.heap.size + 1, 0, none⟩ = some (.int .i16 a) := HF1.out.1 0 (by omega)
      have f1 : w2.cell? ⟨w.heap.size + 1, 1, none⟩ = some (.int .i16 b) := HF1.out.1 1 (by omega)
      have f2 : w2.cell? ⟨w.heap.size + 1, 2, none⟩ = some (.int .i16 c) := HF1.out.1 2 (by omega)
      have f3 : w2.cell? ⟨w.heap.size + 1, 3, none⟩ = some (.int .i16 d) := HF1.out.1 3 (by omega)
      go_upto_region 5 with (first
        | (go_at_call 8; refine (two_to a b c d x y z HA.out HB4.out HC.out HD.out HX.out HY.out HZ.out p q HP.out HQ.out _).mono ?_; rintro e3 w3' ⟨rfl, hbb⟩; replace HT1 := Lib.hid (HT1.out.below hbb HT1.out.2.2.2); replace HB1 := Lib.hid (HB1.out.trans (hbb.mono HB1.out.size)); replace HV := Lib.hid (And.intro (Nat.lt_of_lt_of_le HV.out.1 hbb.size) (And.intro ((hbb.cell (p := ⟨gt, 0, none⟩) HV.out.1).trans HV.out.2.1) ((hbb.cell (p := ⟨gt, 1, none⟩) HV.out.1).trans HV.out.2.2))); clear hbb t0 t1 t2 t3 f0 f1 f2 f3 HF1)
        | (refine wpList_store_mid rfl 30 (.tmp 10) (.tmp 29) rfl w3'.heap.size 0 #[.int .i64 p, .int .i64 q] rfl rfl (Two.new w3' (.int .i64 0) (.int .i64 0) 30).there (by kernel_rfl) (one2 _ _) ?_; change wpList _ _ _ _ _ (CFour.set2 w3'.heap.size (.int .i64 p) (.int .i64 q) (w3'.alloc (.cells #[.int .i64 0, .int .i64 0] 30)))))
      have hal : Below w3'.heap.size w3' (CFour.set2 w3'.heap.size (.int .i64 p) (.int .i64 q) (w3'.alloc (.cells #[.int .i64 0, .int .i64 0] 30))) := below_set2 ((Below.refl w3'.heap.size w3').alloc (Nat.le_refl _) (.cells #[.int .i64 0, .int .i64 0] 30)) (Nat.le_refl _) _ _
      have hG := (Two.new w3' (.int .i64 0) (.int .i64 0) 30).set2 (.int .i64 p) (.int .i64 q)
      replace HT1 := Lib.hid (HT1.out.below hal HT1.out.2.2.2)
      replace HB1 := Lib.hid (HB1.out.trans (hal.mono HB1.out.size))
      replace HV := Lib.hid (And.intro (Nat.lt_of_lt_of_le HV.out.1 hal.size) (And.intro ((hal.cell (p := ⟨gt, 0, none⟩) HV.out.1).trans HV.out.2.1) ((hal.cell (p := ⟨gt, 1, none⟩) HV.out.1).trans HV.out.2.2)))
      generalize CFour.set2 w3'.heap.size (.int .i64 p) (.int .i64 q) (w3'.alloc (.cells #[.int .i64 0, .int .i64 0] 30)) = w4 at hG HT1 HB1 HV ⊢
      generalize w3'.heap.size = gg at hG ⊢
      have HG := Lib.hid hG
      clear hal hG
      go_upto_region 8 with fail
      clear hn hli
      rw [(four_list a b c d x y z).1, (four_list a b c d x y z).2, HP.out, HQ.out] at HV
      refine wp_region_held_drew (S := fun W => Three w.heap.size (.int .i8 x) (.int .i8 y) (.int .i8 z) W ∧ Two gg (.int .i64 p) (.int .i64 q) W ∧ W.cell? ⟨gt, 0, none⟩ = some (.int .i64 p) ∧ W.cell? ⟨gt, 1, none⟩ = some (.int .i64 q)) (by kernel_rfl) ⟨HT1.out.drew, HG.out.drew, HV.out.2.1, HV.out.2.2⟩ (fun hHeld => ?_)
      replace HT1 := Lib.hid HT1.out.drew
      replace HG := Lib.hid HG.out.drew
      replace HB1 := Lib.hid HB1.out.drew
      replace HV : Hid (gt < w4.drew.heap.size ∧ w4.drew.cell? ⟨gt, 0, none⟩ = some (.int .i64 p) ∧ w4.drew.cell? ⟨gt, 1, none⟩ = some (.int .i64 q)) := HV
      generalize w4.drew = W0 at HT1 HG HB1 HV hHeld ⊢
      refine wpAnyH_take (i := 0) (oi := ({ dst := some 38, op := Op.move (Operand.tmp 0), type := 22, pos := "law.go:25", after := #[], guard := none } : Oper)) (v := ?_) rfl (by kernel_rfl) (by kernel_rfl) (by kernel_rfl) (fun _ _ _ h => h) (Or.inl ⟨by rfl, ?_⟩) (by assumption) ?_
      rotate_left
      · intro wS hSw
        first
          | (go_simp; done)
          | (go_simp; with_reducible rfl)
      try simp only [Act.put, List.setIfInBounds_toArray, List.set_cons_zero, List.set_cons_succ]
      refine wpAnyH_take (i := 1) (oi := ({ dst := some 39, op := Op.load 24 (Operand.tmp 5), type := 24, pos := "law.go:25", after := #[], guard := none } : Oper)) (v := ?_) rfl (by kernel_rfl) (by kernel_rfl) (by kernel_rfl) (fun _ _ _ h => h) (Or.inl ⟨by rfl, ?_⟩) (by assumption) ?_
      rotate_left
      · intro wS hSw
        obtain ⟨⟨q1, q2, q3, q4⟩, ⟨q5, q6, q7, q8⟩, q9, q10⟩ := hSw
        first
          | (go_simp; done)
          | (go_simp; with_reducible rfl)
      try simp only [Act.put, List.setIfInBounds_toArray, List.set_cons_zero, List.set_cons_succ]
      refine wpAnyH_take (i := 3) (oi := ({ dst := some 41, op := Op.move (Operand.tmp 0), type := 22, pos := "law.go:25", after := #[], guard := none } : Oper)) (v := ?_) rfl (by kernel_rfl) (by kernel_rfl) (by kernel_rfl) (fun _ _ _ h => h) (Or.inl ⟨by rfl, ?_⟩) (by assumption) ?_
      rotate_left
      · intro wS hSw
        first
          | (go_simp; done)
          | (go_simp; with_reducible rfl)
      try simp only [Act.put, List.setIfInBounds_toArray, List.set_cons_zero, List.set_cons_succ]
      refine wpAnyH_take (i := 4) (oi := ({ dst := some 42, op := Op.load 24 (Operand.tmp 5), type := 24, pos := "law.go:25", after := #[], guard := none } : Oper)) (v := ?_) rfl (by kernel_rfl) (by kernel_rfl) (by kernel_rfl) (fun _ _ _ h => h) (Or.inl ⟨by rfl, ?_⟩) (by assumption) ?_
      rotate_left
      · intro wS hSw
        obtain ⟨⟨q1, q2, q3, q4⟩, ⟨q5, q6, q7, q8⟩, q9, q10⟩ := hSw
        first
          | (go_simp; done)
          | (go_simp; with_reducible rfl)
      try simp only [Act.put, List.setIfInBounds_toArray, List.set_cons_zero, List.set_cons_succ]
      refine wpAnyH_ready (rs := [2]) (by kernel_rfl) (by simp) ?_
      refine AllReadyH.cons (o := ({ dst := some 40, op := Op.call { callee := Callee.value (Operand.func 10), args := #[Operand.tmp 38, Operand.tmp 39], argTypes := #[22, 24] }, type := 28, pos := "law.go:25", after := #[{ on := 0, ground := Ground.data }, { on := 1, ground := Ground.data }], guard := none } : Oper)) rfl (fun K hK => ?_) (AllReadyH.nil)
      go_simp
      go_at_call 10
      refine (slide_to A xs N cp (N - 2) HN.out hc HCM.out rfl (by omega) HWF.out x y z HX.out HY.out HZ.out _ rfl _ ((HR.out.below HB1.out).more HB1.out.size)).mono ?_
      rintro e Wk1 ⟨v1, rfl, hown1, hb1⟩
      obtain ⟨A1, c1, rfl, hk1, -, hrd1⟩ := Kit.own_rd hown1
      have HR1 := Lib.hid hrd1
      have HZ1 := Lib.hid hb1.size
      clear hown1 hrd1 hk1
      have hbK := hb1
      replace HT1 := Lib.hid (HT1.out.below hbK HT1.out.2.2.2)
      replace HG := Lib.hid (HG.out.below hbK HG.out.2.2.2)
      replace HB1 := Lib.hid (HB1.out.trans (hbK.mono HB1.out.size))
      replace HV := Lib.hid (And.intro (Nat.lt_of_lt_of_le HV.out.1 hbK.size) (And.intro ((hbK.cell (p := ⟨gt, 0, none⟩) HV.out.1).trans HV.out.2.1) ((hbK.cell (p := ⟨gt, 1, none⟩) HV.out.1).trans HV.out.2.2)))
      clear hbK hHeld
      dsimp only
      refine hK.out _ _ ?_ (fun hHeld => ?_)
      · exact ⟨HT1.out, HG.out, HV.out.2.1, HV.out.2.2⟩
      clear hK K
      try simp only [Act.put, List.setIfInBounds_toArray, List.set_cons_zero, List.set_cons_succ]
      refine wpAnyH_ready (rs := [5]) (by kernel_rfl) (by simp) ?_
      refine AllReadyH.cons (o := ({ dst := some 43, op := Op.call { callee := Callee.value (Operand.func 7), args := #[Operand.tmp 41, Operand.tmp 42], argTypes := #[22, 24] }, type := 28, pos := "law.go:25", after := #[{ on := 3, ground := Ground.data }, { on := 4, ground := Ground.data }, { on := 2, ground := Ground.chain }], guard := none } : Oper)) rfl (fun K hK => ?_) (AllReadyH.nil)
      go_simp
      go_at_call 7
      refine (refSlide_to A xs N cp (N - 2) HN.out rfl (by omega) HWF.out x y z HX.out HY.out HZ.out _ rfl _ (Nat.le_refl _) ((HR.out.below HB1.out).more HB1.out.size)).mono ?_
      rintro e Wk2 ⟨v2, rfl, hown2, hb1⟩
      obtain ⟨A2, c2, rfl, hk2, -, hrd2⟩ := Kit.own_rd hown2
      have HR2 := Lib.hid hrd2
      replace HR1 := Lib.hid (HR1.out.below hb1)
      clear hown2 hrd2 hk2
      have hbK := hb1
      replace HT1 := Lib.hid (HT1.out.below hbK HT1.out.2.2.2)
      replace HG := Lib.hid (HG.out.below hbK HG.out.2.2.2)
      replace HB1 := Lib.hid (HB1.out.trans (hbK.mono HB1.out.size))
      replace HV := Lib.hid (And.intro (Nat.lt_of_lt_of_le HV.out.1 hbK.size) (And.intro ((hbK.cell (p := ⟨gt, 0, none⟩) HV.out.1).trans HV.out.2.1) ((hbK.cell (p := ⟨gt, 1, none⟩) HV.out.1).trans HV.out.2.2)))
      clear hbK hHeld
      dsimp only
      refine hK.out _ _ ?_ (fun hHeld => ?_)
      · exact ⟨HT1.out, HG.out, HV.out.2.1, HV.out.2.2⟩
      clear hK K
      try simp only [Act.put, List.setIfInBounds_toArray, List.set_cons_zero, List.set_cons_succ]
      refine wpAnyH_ready (rs := [6]) (by kernel_rfl) (by simp) ?_
      refine AllReadyH.cons (o := ({ dst := some 44, op := Op.call { callee := Callee.value (Operand.func 9), args := #[Operand.tmp 40, Operand.tmp 43], argTypes := #[28, 28] }, type := 4, pos := "law.go:25", after := #[{ on := 2, ground := Ground.data }, { on := 5, ground := Ground.data }, { on := 5, ground := Ground.chain }], guard := none } : Oper)) rfl (fun K hK => ?_) (AllReadyH.nil)
      go_simp
      go_at_call 9
      refine (same_yes A1 A2 (nums (slideF xs x y z) (N - 2)) (N - 2) c1 (N - 2) c2 (nums_len _ _) rfl (by omega) _ HR1.out HR2.out).mono ?_
      rintro e Wk3 ⟨rfl, hb1⟩
      have hbK := hb1
      replace HT1 := Lib.hid (HT1.out.below hbK HT1.out.2.2.2)
      replace HG := Lib.hid (HG.out.below hbK HG.out.2.2.2)
      replace HB1 := Lib.hid (HB1.out.trans (hbK.mono HB1.out.size))
      replace HV := Lib.hid (And.intro (Nat.lt_of_lt_of_le HV.out.1 hbK.size) (And.intro ((hbK.cell (p := ⟨gt, 0, none⟩) HV.out.1).trans HV.out.2.1) ((hbK.cell (p := ⟨gt, 1, none⟩) HV.out.1).trans HV.out.2.2)))
      clear hbK hHeld
      dsimp only
      refine hK.out _ _ ?_ (fun hHeld => ?_)
      · exact ⟨HT1.out, HG.out, HV.out.2.1, HV.out.2.2⟩
      clear hK K
      try simp only [Act.put, List.setIfInBounds_toArray, List.set_cons_zero, List.set_cons_succ]
      refine wpAnyH_take (i := 7) (oi := ({ dst := some 45, op := Op.move (Operand.tmp 44), type := 4, pos := "law.go:25", after := #[{ on := 6, ground := Ground.data }, { on := 6, ground := Ground.chain }], guard := none } : Oper)) (v := ?_) rfl (by kernel_rfl) (by kernel_rfl) (by kernel_rfl) (fun _ _ _ h => h) (Or.inl ⟨by rfl, ?_⟩) (by assumption) ?_
      rotate_left
      · intro wS hSw
        first
          | (go_simp; done)
          | (go_simp; with_reducible rfl)
      try simp only [Act.put, List.setIfInBounds_toArray, List.set_cons_zero, List.set_cons_succ]
      refine wpAnyH_take (i := 8) (oi := ({ dst := some 46, op := Op.indexAddr 30 (Operand.tmp 10) (Operand.const (Value.int IntKind.i64 0)), type := 0, pos := "law.go:25", after := #[{ on := 7, ground := Ground.guard }], guard := some (7, true) } : Oper)) (v := ?_) rfl (by kernel_rfl) (by kernel_rfl) (by kernel_rfl) (fun _ _ _ h => h) (Or.inl ⟨by rfl, ?_⟩) (by assumption) ?_
      rotate_left
      · intro wS hSw
        first
          | (go_simp; done)
          | (go_simp; with_reducible rfl)
      try simp only [Act.put, List.setIfInBounds_toArray, List.set_cons_zero, List.set_cons_succ]
      refine wpAnyH_take (i := 9) (oi := ({ dst := some 47, op := Op.load 2 (Operand.tmp 46), type := 2, pos := "law.go:25", after := #[{ on := 8, ground := Ground.data }, { on := 7, ground := Ground.guard }], guard := some (7, true) } : Oper)) (v := ?_) rfl (by kernel_rfl) (by kernel_rfl) (by kernel_rfl) (fun _ _ _ h => h) (Or.inl ⟨by rfl, ?_⟩) (by assumption) ?_
      rotate_left
      · intro wS hSw
        obtain ⟨⟨q1, q2, q3, q4⟩, ⟨q5, q6, q7, q8⟩, q9, q10⟩ := hSw
        first
          | (go_simp; done)
          | (go_simp; with_reducible rfl)
      try simp only [Act.put, List.setIfInBounds_toArray, List.set_cons_zero, List.set_cons_succ]
      refine wpAnyH_take (i := 10) (oi := ({ dst := some 48, op := Op.move (Operand.tmp 9), type := 28, pos := "law.go:25", after := #[{ on := 7, ground := Ground.guard }], guard := some (7, true) } : Oper)) (v := ?_) rfl (by kernel_rfl) (by kernel_rfl) (by kernel_rfl) (fun _ _ _ h => h) (Or.inl ⟨by rfl, ?_⟩) (by assumption) ?_
      rotate_left
      · intro wS hSw
        first
          | (go_simp; done)
          | (go_simp; with_reducible rfl)
      try simp only [Act.put, List.setIfInBounds_toArray, List.set_cons_zero, List.set_cons_succ]
      refine wpAnyH_take (i := 11) (oi := ({ dst := some 49, op := Op.indexAddr 28 (Operand.tmp 48) (Operand.const (Value.int IntKind.i64 0)), type := 0, pos := "law.go:25", after := #[{ on := 10, ground := Ground.data }, { on := 7, ground := Ground.guard }], guard := some (7, true) } : Oper)) (v := ?_) rfl (by kernel_rfl) (by kernel_rfl) (by kernel_rfl) (fun _ _ _ h => h) (Or.inl ⟨by rfl, ?_⟩) (by assumption) ?_
      rotate_left
      · intro wS hSw
        first
          | (go_simp; done)
          | (go_simp; with_reducible rfl)
      try simp only [Act.put, List.setIfInBounds_toArray, List.set_cons_zero, List.set_cons_succ]
      refine wpAnyH_take (i := 12) (oi := ({ dst := some 50, op := Op.load 2 (Operand.tmp 49), type := 2, pos := "law.go:25", after := #[{ on := 11, ground := Ground.data }, { on := 7, ground := Ground.guard }], guard := some (7, true) } : Oper)) (v := ?_) rfl (by kernel_rfl) (by kernel_rfl) (by kernel_rfl) (fun _ _ _ h => h) (Or.inl ⟨by rfl, ?_⟩) (by assumption) ?_
      rotate_left
      · intro wS hSw
        obtain ⟨⟨q1, q2, q3, q4⟩, ⟨q5, q6, q7, q8⟩, q9, q10⟩ := hSw
        first
          | (go_simp; done)
          | (go_simp; with_reducible rfl)
      try simp only [Act.put, List.setIfInBounds_toArray, List.set_cons_zero, List.set_cons_succ]
      refine wpAnyH_take (i := 13) (oi := ({ dst := some 51, op := Op.binOp BinOp.eql 2 (Operand.tmp 47) (Operand.tmp 50) 2, type := 4, pos := "law.go:25", after := #[{ on := 9, ground := Ground.data }, { on := 12, ground := Ground.data }, { on := 7, ground := Ground.guard }], guard := some (7, true) } : Oper)) (v := ?_) rfl (by kernel_rfl) (by kernel_rfl) (by kernel_rfl) (fun _ _ _ h => h) (Or.inl ⟨by rfl, ?_⟩) (by assumption) ?_
      rotate_left
      · intro wS hSw
        first
          | (go_simp; done)
          | (go_simp; with_reducible rfl)
      try simp only [Act.put, List.setIfInBounds_toArray, List.set_cons_zero, List.set_cons_succ]
      refine wpAnyH_take (i := 14) (oi := ({ dst := some 52, op := Op.pick (Operand.tmp 45) (Operand.tmp 51) (Operand.const (Value.bool false)), type := 4, pos := "law.go:25", after := #[{ on := 7, ground := Ground.data }, { on := 13, ground := Ground.data }], guard := none } : Oper)) (v := ?_) rfl (by kernel_rfl) (by kernel_rfl) (by kernel_rfl) (fun _ _ _ h => h) (Or.inl ⟨by rfl, ?_⟩) (by assumption) ?_
      rotate_left
      · intro wS hSw
        first
          | (go_simp; done)
          | (go_simp; with_reducible rfl)
      try simp only [Act.put, List.setIfInBounds_toArray, List.set_cons_zero, List.set_cons_succ]
      refine wpAnyH_take (i := 15) (oi := ({ dst := some 53, op := Op.move (Operand.tmp 52), type := 4, pos := "law.go:25", after := #[{ on := 14, ground := Ground.data }, { on := 7, ground := Ground.chain }], guard := none } : Oper)) (v := ?_) rfl (by kernel_rfl) (by kernel_rfl) (by kernel_rfl) (fun _ _ _ h => h) (Or.inl ⟨by rfl, ?_⟩) (by assumption) ?_
      rotate_left
      · intro wS hSw
        first
          | (go_simp; done)
          | (go_simp; with_reducible rfl)
      try simp only [Act.put, List.setIfInBounds_toArray, List.set_cons_zero, List.set_cons_succ]
      refine wpAnyH_take (i := 16) (oi := ({ dst := some 54, op := Op.indexAddr 30 (Operand.tmp 10) (Operand.const (Value.int IntKind.i64 1)), type := 0, pos := "law.go:25", after := #[{ on := 15, ground := Ground.guard }], guard := some (15, true) } : Oper)) (v := ?_) rfl (by kernel_rfl) (by kernel_rfl) (by kernel_rfl) (fun _ _ _ h => h) (Or.inl ⟨by rfl, ?_⟩) (by assumption) ?_
      rotate_left
      · intro wS hSw
        first
          | (go_simp; done)
          | (go_simp; with_reducible rfl)
      try simp only [Act.put, List.setIfInBounds_toArray, List.set_cons_zero, List.set_cons_succ]
      refine wpAnyH_take (i := 17) (oi := ({ dst := some 55, op := Op.load 2 (Operand.tmp 54), type := 2, pos := "law.go:25", after := #[{ on := 16, ground := Ground.data }, { on := 15, ground := Ground.guard }], guard := some (15, true) } : Oper)) (v := ?_) rfl (by kernel_rfl) (by kernel_rfl) (by kernel_rfl) (fun _ _ _ h => h) (Or.inl ⟨by rfl, ?_⟩) (by assumption) ?_
      rotate_left
      · intro wS hSw
        obtain ⟨⟨q1, q2, q3, q4⟩, ⟨q5, q6, q7, q8⟩, q9, q10⟩ := hSw
        first
          | (go_simp; done)
          | (go_simp; with_reducible rfl)
      try simp only [Act.put, List.setIfInBounds_toArray, List.set_cons_zero, List.set_cons_succ]
      refine wpAnyH_take (i := 18) (oi := ({ dst := some 56, op := Op.move (Operand.tmp 9), type := 28, pos := "law.go:25", after := #[{ on := 15, ground := Ground.guard }], guard := some (15, true) } : Oper)) (v := ?_) rfl (by kernel_rfl) (by kernel_rfl) (by kernel_rfl) (fun _ _ _ h => h) (Or.inl ⟨by rfl, ?_⟩) (by assumption) ?_
      rotate_left
      · intro wS hSw
        first
          | (go_simp; done)
          | (go_simp; with_reducible rfl)
      try simp only [Act.put, List.setIfInBounds_toArray, List.set_cons_zero, List.set_cons_succ]
      refine wpAnyH_take (i := 19) (oi := ({ dst := some 57, op := Op.indexAddr 28 (Operand.tmp 56) (Operand.const (Value.int IntKind.i64 1)), type := 0, pos := "law.go:25", after := #[{ on := 18, ground := Ground.data }, { on := 15, ground := Ground.guard }], guard := some (15, true) } : Oper)) (v := ?_) rfl (by kernel_rfl) (by kernel_rfl) (by kernel_rfl) (fun _ _ _ h => h) (Or.inl ⟨by rfl, ?_⟩) (by assumption) ?_
      rotate_left
      · intro wS hSw
        first
          | (go_simp; done)
          | (go_simp; with_reducible rfl)
      try simp only [Act.put, List.setIfInBounds_toArray, List.set_cons_zero, List.set_cons_succ]
      refine wpAnyH_take (i := 20) (oi := ({ dst := some 58, op := Op.load 2 (Operand.tmp 57), type := 2, pos := "law.go:25", after := #[{ on := 19, ground := Ground.data }, { on := 15, ground := Ground.guard }], guard := some (15, true) } : Oper)) (v := ?_) rfl (by kernel_rfl) (by kernel_rfl) (by kernel_rfl) (fun _ _ _ h => h) (Or.inl ⟨by rfl, ?_⟩) (by assumption) ?_
      rotate_left
      · intro wS hSw
        obtain ⟨⟨q1, q2, q3, q4⟩, ⟨q5, q6, q7, q8⟩, q9, q10⟩ := hSw
        first
          | (go_simp; done)
          | (go_simp; with_reducible rfl)
      try simp only [Act.put, List.setIfInBounds_toArray, List.set_cons_zero, List.set_cons_succ]
      refine wpAnyH_take (i := 21) (oi := ({ dst := some 59, op := Op.binOp BinOp.eql 2 (Operand.tmp 55) (Operand.tmp 58) 2, type := 4, pos := "law.go:25", after := #[{ on := 17, ground := Ground.data }, { on := 20, ground := Ground.data }, { on := 15, ground := Ground.guard }], guard := some (15, true) } : Oper)) (v := ?_) rfl (by kernel_rfl) (by kernel_rfl) (by kernel_rfl) (fun _ _ _ h => h) (Or.inl ⟨by rfl, ?_⟩) (by assumption) ?_
      rotate_left
      · intro wS hSw
        first
          | (go_simp; done)
          | (go_simp; with_reducible rfl)
      try simp only [Act.put, List.setIfInBounds_toArray, List.set_cons_zero, List.set_cons_succ]
      refine wpAnyH_take (i := 22) (oi := ({ dst := some 60, op := Op.pick (Operand.tmp 53) (Operand.tmp 59) (Operand.const (Value.bool false)), type := 4, pos := "law.go:25", after := #[{ on := 15, ground := Ground.data }, { on := 21, ground := Ground.data }], guard := none } : Oper)) (v := ?_) rfl (by kernel_rfl) (by kernel_rfl) (by kernel_rfl) (fun _ _ _ h => h) (Or.inl ⟨by rfl, ?_⟩) (by assumption) ?_
      rotate_left
      · intro wS hSw
        first
          | (go_simp; done)
          | (go_simp; with_reducible rfl)
      try simp only [Act.put, List.setIfInBounds_toArray, List.set_cons_zero, List.set_cons_succ]
      refine wpAnyH_take (i := 23) (oi := ({ dst := some 61, op := Op.move (Operand.tmp 60), type := 4, pos := "law.go:25", after := #[{ on := 22, ground := Ground.data }, { on := 15, ground := Ground.chain }], guard := none } : Oper)) (v := ?_) rfl (by kernel_rfl) (by kernel_rfl) (by kernel_rfl) (fun _ _ _ h => h) (Or.inl ⟨by rfl, ?_⟩) (by assumption) ?_
      rotate_left
      · intro wS hSw
        first
          | (go_simp; done)
          | (go_simp; with_reducible rfl)
      try simp only [Act.put, List.setIfInBounds_toArray, List.set_cons_zero, List.set_cons_succ]
      refine wpAnyH_take (i := 24) (oi := ({ dst := some 62, op := Op.move (Operand.tmp 3), type := 3, pos := "law.go:25", after := #[{ on := 23, ground := Ground.guard }], guard := some (23, true) } : Oper)) (v := ?_) rfl (by kernel_rfl) (by kernel_rfl) (by kernel_rfl) (fun _ _ _ h => h) (Or.inl ⟨by rfl, ?_⟩) (by assumption) ?_
      rotate_left
      · intro wS hSw
        first
          | (go_simp; done)
          | (go_simp; with_reducible rfl)
      try simp only [Act.put, List.setIfInBounds_toArray, List.set_cons_zero, List.set_cons_succ]
      refine wpAnyH_take (i := 26) (oi := ({ dst := some 64, op := Op.move (Operand.tmp 11), type := 3, pos := "law.go:25", after := #[{ on := 23, ground := Ground.guard }], guard := some (23, true) } : Oper)) (v := ?_) rfl (by kernel_rfl) (by kernel_rfl) (by kernel_rfl) (fun _ _ _ h => h) (Or.inl ⟨by rfl, ?_⟩) (by assumption) ?_
      rotate_left
      · intro wS hSw
        first
          | (go_simp; done)
          | (go_simp; with_reducible rfl)
      try simp only [Act.put, List.setIfInBounds_toArray, List.set_cons_zero, List.set_cons_succ]
      refine wpAnyH_ready (rs := [25]) (by kernel_rfl) (by simp) ?_
      refine AllReadyH.cons (o := ({ dst := some 63, op := Op.call { callee := Callee.value (Operand.func 11), args := #[Operand.tmp 62], argTypes := #[3] }, type := 3, pos := "law.go:25", after := #[{ on := 24, ground := Ground.data }, { on := 23, ground := Ground.chain }, { on := 23, ground := Ground.guard }], guard := some (23, true) } : Oper)) rfl (fun K hK => ?_) (AllReadyH.nil)
      go_simp
      go_at_call 11
      refine (blocks_to n HNB.out.1 HNB.out.2 _ HBQ.out _).mono ?_
      rintro e Wk8 ⟨rfl, rfl⟩
      clear hHeld
      dsimp only
      refine hK.out _ _ ?_ (fun hHeld => ?_)
      · exact ⟨HT1.out, HG.out, HV.out.2.1, HV.out.2.2⟩
      clear hK K
      try simp only [Act.put, List.setIfInBounds_toArray, List.set_cons_zero, List.set_cons_succ]
      refine wpAnyH_take (i := 27) (oi := ({ dst := some 65, op := Op.binOp BinOp.eql 3 (Operand.tmp 63) (Operand.tmp 64) 3, type := 4, pos := "law.go:25", after := #[{ on := 25, ground := Ground.data }, { on := 26, ground := Ground.data }, { on := 23, ground := Ground.guard }], guard := some (23, true) } : Oper)) (v := ?_) rfl (by kernel_rfl) (by kernel_rfl) (by kernel_rfl) (fun _ _ _ h => h) (Or.inl ⟨by rfl, ?_⟩) (by assumption) ?_
      rotate_left
      · intro wS hSw
        first
          | (go_simp; done)
          | (go_simp; with_reducible rfl)
      try simp only [Act.put, List.setIfInBounds_toArray, List.set_cons_zero, List.set_cons_succ]
      refine wpAnyH_take (i := 28) (oi := ({ dst := some 66, op := Op.pick (Operand.tmp 61) (Operand.tmp 65) (Operand.const (Value.bool false)), type := 4, pos := "law.go:25", after := #[{ on := 23, ground := Ground.data }, { on := 27, ground := Ground.data }], guard := none } : Oper)) (v := ?_) rfl (by kernel_rfl) (by kernel_rfl) (by kernel_rfl) (fun _ _ _ h => h) (Or.inl ⟨by rfl, ?_⟩) (by assumption) ?_
      rotate_left
      · intro wS hSw
        first
          | (go_simp; done)
          | (go_simp; with_reducible rfl)
      try simp only [Act.put, List.setIfInBounds_toArray, List.set_cons_zero, List.set_cons_succ]
      refine wpAnyH_take (i := 29) (oi := ({ dst := some 67, op := Op.move (Operand.tmp 66), type := 4, pos := "law.go:25", after := #[{ on := 28, ground := Ground.data }, { on := 25, ground := Ground.chain }], guard := none } : Oper)) (v := ?_) rfl (by kernel_rfl) (by kernel_rfl) (by kernel_rfl) (fun _ _ _ h => h) (Or.inl ⟨by rfl, ?_⟩) (by assumption) ?_
      rotate_left
      · intro wS hSw
        first
          | (go_simp; done)
          | (go_simp; with_reducible rfl)
      try simp only [Act.put, List.setIfInBounds_toArray, List.set_cons_zero, List.set_cons_succ]
      refine wpAnyH_ready (rs := [30]) (by kernel_rfl) (by simp) ?_
      refine AllReadyH.cons (o := ({ dst := some 68, op := Op.call { callee := Callee.value (Operand.func 6), args := #[], argTypes := #[] }, type := 4, pos := "law.go:25", after := #[{ on := 29, ground := Ground.chain }, { on := 29, ground := Ground.guard }], guard := some (29, true) } : Oper)) rfl (fun K hK => ?_) (AllReadyH.nil)
      go_simp
      go_at_call 6
      refine (known15 _).mono ?_
      rintro e Wk4 ⟨rfl, hb1⟩
      have hbK := hb1
      replace HT1 := Lib.hid (HT1.out.below hbK HT1.out.2.2.2)
      replace HG := Lib.hid (HG.out.below hbK HG.out.2.2.2)
      replace HB1 := Lib.hid (HB1.out.trans (hbK.mono HB1.out.size))
      replace HV := Lib.hid (And.intro (Nat.lt_of_lt_of_le HV.out.1 hbK.size) (And.intro ((hbK.cell (p := ⟨gt, 0, none⟩) HV.out.1).trans HV.out.2.1) ((hbK.cell (p := ⟨gt, 1, none⟩) HV.out.1).trans HV.out.2.2)))
      clear hbK hHeld
      dsimp only
      refine hK.out _ _ ?_ (fun hHeld => ?_)
      · exact ⟨HT1.out, HG.out, HV.out.2.1, HV.out.2.2⟩
      clear hK K
      try simp only [Act.put, List.setIfInBounds_toArray, List.set_cons_zero, List.set_cons_succ]
      refine wpAnyH_take (i := 31) (oi := ({ dst := some 69, op := Op.pick (Operand.tmp 67) (Operand.tmp 68) (Operand.const (Value.bool false)), type := 4, pos := "law.go:25", after := #[{ on := 29, ground := Ground.data }, { on := 30, ground := Ground.data }], guard := none } : Oper)) (v := ?_) rfl (by kernel_rfl) (by kernel_rfl) (by kernel_rfl) (fun _ _ _ h => h) (Or.inl ⟨by rfl, ?_⟩) (by assumption) ?_
      rotate_left
      · intro wS hSw
        first
          | (go_simp; done)
          | (go_simp; with_reducible rfl)
      try simp only [Act.put, List.setIfInBounds_toArray, List.set_cons_zero, List.set_cons_succ]
      refine wpAnyH_take (i := 32) (oi := ({ dst := some 8, op := Op.assign (Operand.tmp 69), type := 4, pos := "law.go:25", after := #[{ on := 31, ground := Ground.data }, { on := 30, ground := Ground.chain }, { on := 0, ground := Ground.phase }, { on := 1, ground := Ground.phase }, { on := 2, ground := Ground.phase }, { on := 3, ground := Ground.phase }, { on := 4, ground := Ground.phase }, { on := 5, ground := Ground.phase }, { on := 6, ground := Ground.phase }, { on := 7, ground := Ground.phase }, { on := 8, ground := Ground.phase }, { on := 9, ground := Ground.phase }, { on := 10, ground := Ground.phase }, { on := 11, ground := Ground.phase }, { on := 12, ground := Ground.phase }, { on := 13, ground := Ground.phase }, { on := 14, ground := Ground.phase }, { on := 15, ground := Ground.phase }, { on := 16, ground := Ground.phase }, { on := 17, ground := Ground.phase }, { on := 18, ground := Ground.phase }, { on := 19, ground := Ground.phase }, { on := 20, ground := Ground.phase }, { on := 21, ground := Ground.phase }, { on := 22, ground := Ground.phase }, { on := 23, ground := Ground.phase }, { on := 24, ground := Ground.phase }, { on := 25, ground := Ground.phase }, { on := 26, ground := Ground.phase }, { on := 27, ground := Ground.phase }, { on := 28, ground := Ground.phase }, { on := 29, ground := Ground.phase }, { on := 30, ground := Ground.phase }, { on := 31, ground := Ground.phase }], guard := none } : Oper)) (v := ?_) rfl (by kernel_rfl) (by kernel_rfl) (by kernel_rfl) (fun _ _ _ h => h) (Or.inl ⟨by rfl, ?_⟩) (by assumption) ?_
      rotate_left
      · intro wS hSw
        first
          | (go_simp; done)
          | (go_simp; with_reducible rfl)
      try simp only [Act.put, List.setIfInBounds_toArray, List.set_cons_zero, List.set_cons_succ]
      refine wpAnyH_done (by kernel_rfl) ?_ _
      go_wp2_with fail
      go_ret
      exact ⟨rfl, HB1.out⟩
  · have hli : (N : Int) > 200 := by omega
    clear hr hw8 wx wy wz wa wb wc wd wn hc hl hcm hN
    go_enter Try.func3, Try.ntmps3
    go_wp2_with (go_at_call 6; ((with_reducible refine (known15 _).mono ?_); rintro e1 w1 ⟨rfl, h1⟩))
    go_ret
    exact ⟨rfl, (((Below.refl _ _).alloc (Nat.le_refl _) _).alloc (by simp) _).trans (h1.mono (by simp; omega))⟩
/-! ### the frame: written by program -/
theorem own : ownKnob Try.prog.godebug = none := by kernel_rfl
theorem laid : laidOutB Try.prog = true := by kernel_rfl
theorem contract {H : Type} {enc : TypeId × Value → H} {W : World} {base : Nat} {args : Array Value} {ds gs : List (DataW H)} {before : List MemPlace}
    (hval0 : ∀ (j : Nat) t v, Try.f3.params[j]? = some t → args[j]? = some v → Value.okWide Try.prog W .any base t v)
    (hW : DataW.Whole enc Try.prog Try.f3.params.toList Rows.wheelSlidesSpec.vars false W args.toList ds gs before) :
    Calls Try.prog 3 args W fun e W' => e = .returned (.bool true) ∧ Below W.heap.size W W' := by
  have hval : ∀ (j : Nat) t v, Try.f3.params[j]? = some t → args[j]? = some v → Value.okWide Try.prog W .any base t v := hval0
  obtain ⟨p, q, hA0, hV, rfl, hfz, hnd⟩ := hW
  have hA : DataW.TrodAll enc Try.prog W 0 (fun _ => true) true Try.f3.params.toList args.toList ds p := hA0
  rw [Try.params3] at hA hval
  obtain ⟨v0, vs0, d0, ds0, p0, q0, hargs, rfl, rfl, h0, r0⟩ := trodAll_cons hA
  obtain ⟨v1, vs1, d1, ds1, p1, q1, rfl, rfl, rfl, h1, r1⟩ := trodAll_cons r0
  obtain ⟨v2, vs2, d2, ds2, p2, q2, rfl, rfl, rfl, h2, r2⟩ := trodAll_cons r1
  obtain ⟨v3, vs3, d3, ds3, p3, q3, rfl, rfl, rfl, h3, r3⟩ := trodAll_cons r2
  obtain ⟨rfl, rfl, rfl⟩ := trodAll_nil r3
  obtain rfl : args = #[v0, v1, v2, v3] := by cases args; simp_all
  clear hA0 hval0
  obtain ⟨A0, z0, c0, rfl, hc0, hm0, hw0, hr0⟩ := Kit.open_islice Try.underlying22 Try.underlying25 (by kernel_rfl) (hval 0 22 v0 rfl rfl) h0
  obtain ⟨cs1, rfl, hs1, hf1⟩ := Kit.open_array Try.underlying24 (by kernel_rfl) (by kernel_rfl) (hval 1 24 v1 rfl rfl) h1
  obtain ⟨u1_0, u1_1, u1_2, rfl⟩ := Kit.size_3 hs1
  obtain ⟨a1_0, rfl, w1_0⟩ := Kit.flat_int Try.underlying23 (v := u1_0) rfl (hf1 0 (by decide))
  obtain ⟨a1_1, rfl, w1_1⟩ := Kit.flat_int Try.underlying23 (v := u1_1) rfl (hf1 1 (by decide))
  obtain ⟨a1_2, rfl, w1_2⟩ := Kit.flat_int Try.underlying23 (v := u1_2) rfl (hf1 2 (by decide))
  obtain ⟨cs2, rfl, hs2, hf2⟩ := Kit.open_array Try.underlying26 (by kernel_rfl) (by kernel_rfl) (hval 2 26 v2 rfl rfl) h2
  obtain ⟨u2_0, u2_1, u2_2, u2_3, rfl⟩ := Kit.size_4 hs2
  obtain ⟨a2_0, rfl, w2_0⟩ := Kit.flat_int Try.underlying25 (v := u2_0) rfl (hf2 0 (by decide))
  obtain ⟨a2_1, rfl, w2_1⟩ := Kit.flat_int Try.underlying25 (v := u2_1) rfl (hf2 1 (by decide))
  obtain ⟨a2_2, rfl, w2_2⟩ := Kit.flat_int Try.underlying25 (v := u2_2) rfl (hf2 2 (by decide))
  obtain ⟨a2_3, rfl, w2_3⟩ := Kit.flat_int Try.underlying25 (v := u2_3) rfl (hf2 3 (by decide))
  obtain ⟨a3, rfl, rfl, rfl, w3⟩ := open_int Try.underlying3 (hval 3 3 v3 rfl rfl) h3
  exact walk (w := W) A0 z0 c0 hc0 hm0 hw0 hr0 a1_0 w1_0 a1_1 w1_1 a1_2 w1_2 a2_0 w2_0 a2_1 w2_1 a2_2 w2_2 a2_3 w2_3 a3 w3
theorem fnIs {H : Type} : ∀ ds : List (DataW H), ds.length = Try.f3.params.toList.length → Rows.wheelSlidesSpec.fn H ds = { results := [.lit (.bool true)], args := ds } := by
  intro ds h
  rw [Try.params3] at h
  match ds, h with
  | [d1, d2, d3, d4], _ => rfl
set_option maxRecDepth 100000 in
theorem lifted (os : Os) (started : os.Started) (H : Type) (enc : TypeId × Value → H) :
    ReturnsInHanded {} Try.checked os 3 .any (Rows.wheelSlidesSpec.pre6 enc Try.prog Try.f3 Rows.wheelSlidesRow.domain false) (Rows.wheelSlidesSpec.post enc Try.prog Try.f3 false true false false) := by
  refine returnsInHanded_of_change (C := Try.checked) own started (by kernel_rfl) Try.func3
    (ChangeSpec.witness6 (enc := enc) (C := Try.checked) false ⟨#[], #[.slice none 0 0, .agg #[.int .i8 0, .int .i8 0, .int .i8 0], .agg #[.int .i16 0, .int .i16 0, .int .i16 0, .int .i16 0], .int .i64 0], []⟩ 8 (by kernel_rfl) (by kernel_rfl) (by kernel_rfl) (by kernel_rfl)) ?_
  intro W base args ds gs before hval hW _ _
  refine (contract hval hW).mono fun e W' ⟨he, hg⟩ => ?_
  subst he
  exact ⟨_, rfl, Kit.law_post (tb := 4) laid (by kernel_rfl) rfl (by kernel_rfl) Try.underlying4 fnIs hW hg⟩
theorem over : Rows.wheelSlidesRow.holds Try.pinned (OpenSpec.ofChange Rows.wheelSlidesSpec) :=
  OpenClaim.holds_of_wide 3 Try.f3 rfl rfl rfl rfl rfl rfl rfl ⟨rfl, rfl, rfl, rfl, rfl⟩ rfl rfl rfl rfl rfl (by kernel_rfl) Try.func3 (by kernel_rfl)
    (of_decide_eq_true (by kernel_rfl)) (by unfold Func.isWrapper; first | (rw [if_pos (by decide +kernel)]; kernel_rfl) | (rw [if_neg (by decide +kernel)]; exact ⟨rfl, rfl⟩))
    (fun os started H enc _ => lifted os started H enc)
/-- the statement. -/
theorem proved : Rows.WheelSlidesSaid :=
  over
end Go.Proofs.Ytbegabagokapoaa.lawWheelSlides
