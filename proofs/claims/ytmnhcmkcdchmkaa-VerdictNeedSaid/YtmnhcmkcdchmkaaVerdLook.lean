/- Layer 30 (verdict): what an exit tells: the code. Written by gen_verd2.py. -/
import Derived.Test.YtmnhcmkcdchmkaaTk
import Derived.Test.YtmnhcmkcdchmkaaVerdCheck
import Derived.Test.YtmnhcmkcdchmkaaRankRefTwo
import Derived.Deep.CutRange
namespace Go.Proofs.Ytmnhcmkcdchmkaa.CVerd
open Go Go.ChangeShapes Go.WideShapes Go.ChangeAt Go.RowKit Go.Deep
open Plain CSat CShape CTensor CConv CDense
set_option linter.unusedVariables false
set_option maxRecDepth 100000

/-- a verdict's box as it is made. -/
def FreshV (B : Nat) (wd : World) : Prop :=
  (wd.cell? ⟨B, 0, none⟩ = some (.int .i64 0) ∧ wd.cell? ⟨B, 1, none⟩ = some (.int .i64 0) ∧ wd.cell? ⟨B, 2, none⟩ = some (.slice none 0 0) ∧ wd.cell? ⟨B, 3, none⟩ = some (.bool false)) ∧
  wd.frozen? ⟨B, 0, none⟩ = false ∧ wd.frozen? ⟨B, 1, none⟩ = false ∧ wd.frozen? ⟨B, 2, none⟩ = false ∧ wd.frozen? ⟨B, 3, none⟩ = false
theorem freshV (T : TypeId) (w : World) : FreshV w.heap.size (w.alloc (.cells #[.int .i64 0, .int .i64 0, .slice none 0 0, .bool false] T)) :=
  ⟨⟨Kit.new_cell _ _ _ _, Kit.new_cell _ _ _ _, Kit.new_cell _ _ _ _, Kit.new_cell _ _ _ _⟩, World.frozen?_alloc_at _ _ _ _ rfl, World.frozen?_alloc_at _ _ _ _ rfl, World.frozen?_alloc_at _ _ _ _ rfl, World.frozen?_alloc_at _ _ _ _ rfl⟩
theorem FreshV.below {B B' : Nat} {w w' : World} (h : FreshV B w) (hB : B < B') (hb : Below B' w w') : FreshV B w' := by
  obtain ⟨⟨h1, h2, h3, h4⟩, h5, h6, h7, h8⟩ := h
  exact ⟨⟨(hb.cell (p := ⟨B, 0, none⟩) hB).trans h1, (hb.cell (p := ⟨B, 1, none⟩) hB).trans h2, (hb.cell (p := ⟨B, 2, none⟩) hB).trans h3, (hb.cell (p := ⟨B, 3, none⟩) hB).trans h4⟩,
    (hb.frozen (p := ⟨B, 0, none⟩) hB).trans h5, (hb.frozen (p := ⟨B, 1, none⟩) hB).trans h6, (hb.frozen (p := ⟨B, 2, none⟩) hB).trans h7, (hb.frozen (p := ⟨B, 3, none⟩) hB).trans h8⟩
/-- what an exit answers: a class, how far ahead, a row that is its own, whether it is enough. -/
def MadeV (w : World) (R M : Int) (n : Nat) (xs : List Int) (b : Bool) (e : Ending) (w' : World) : Prop :=
  ∃ v, e = .returned (.tuple #[.agg #[.int .i64 R, .int .i64 M, v, .bool b], .int .i64 0]) ∧ w'.ownsRow w.heap.size 21 1 v n (I32v xs) ∧ Below w.heap.size w w'
theorem verdE_ok {H W C : Int} {nW nB : Nat} {D N : Int} (h : verdE H W C nW nB D N = 0) : shapeB H W C = true ∧ ¬ (N < 2 ∨ 16 < N) ∧ ((nW : Int) = N * elemsZ H W C ∧ nW ≤ 16384 ∧ (nB : Int) = N) ∧ 0 ≤ D := by
  unfold verdE at h
  by_cases h1 : shapeB H W C = false
  · rw [if_pos h1] at h; omega
  · rw [if_neg h1] at h
    by_cases h2 : N < 2 ∨ 16 < N
    · rw [if_pos h2] at h; omega
    · rw [if_neg h2] at h
      by_cases h3 : (nW : Int) = N * elemsZ H W C ∧ nW ≤ 16384 ∧ (nB : Int) = N
      · rw [if_pos h3] at h
        by_cases h4 : D < 0
        · rw [if_pos h4] at h; omega
        · exact ⟨by simpa using h1, h2, h3, by omega⟩
      · rw [if_neg h3] at h; omega
theorem verd_num {H W C : Int} {n nW nB : Nat} {D N : Int} (h : verdE H W C nW nB D N = 0) (ht : tensB H W C n = true) : 1 ≤ n ∧ n ≤ 1024 ∧ 2 ≤ nB ∧ nB ≤ 16 ∧ n * nB = nW ∧ nW ≤ 16384 := by
  obtain ⟨h1, h2, ⟨h3, h4, h5⟩, h6⟩ := verdE_ok h
  have hm : (n : Int) = H * W * C := by simp only [tensB, Bool.and_eq_true, decide_eq_true_eq] at ht; exact ht.2
  obtain ⟨-, q1, q2⟩ := el_pos H W C h1
  have hel : elemsZ H W C = (n : Int) := by rw [elemsZ_yes h1, hm]
  rw [hel] at h3 q1 q2
  refine ⟨by omega, by omega, by omega, by omega, ?_, h4⟩
  have e : ((n * nB : Nat) : Int) = (nW : Int) := by rw [h3, ← h5, Int.natCast_mul, Int.mul_comm]
  omega
theorem wrap32_bd (z : Int) : -2147483648 ≤ IntKind.i32.wrap z ∧ IntKind.i32.wrap z ≤ 2147483647 := by rw [IntKind.wrap_i32]; omega
set_option maxHeartbeats 2000000 in
theorem ranked_to (G : Nat → Int) (hb : CRank.I32b G) (n : Nat) (hn : n ≤ 60) (A : Option Addr) (c : Nat) (R M : Int) (hR : CRank.grF G (-1) n = R) (hM : CRank.margF G n = M) (w : World) (hr : Kit.Rd w w.heap.size A (I32v (rowL G n))) :
    Calls Try.prog 14 #[.slice A n c] w fun e w' => e = .returned (.agg #[.int .i64 R, .int .i64 M]) ∧ Below w.heap.size w w' := by
  have C1 := Lib.hid (fun (w : World) (hr : Kit.Rd w w.heap.size A (I32v (rowL G n))) => CRank.best_to G n hn A c R hR w hr)
  have C2 := Lib.hid (fun (w : World) (hr : Kit.Rd w w.heap.size A (I32v (rowL G n))) => CRank.margin_to G hb n hn A c M hM w hr)
  have HB := Lib.hid ((Below.refl w.heap.size w).alloc (Nat.le_refl _) (.cells #[.int .i64 0, .int .i64 0] 50))
  have HR := Lib.hid ((hr.below HB.out).more HB.out.size)
  have z0 : (w.alloc (.cells #[.int .i64 0, .int .i64 0] 50)).cell? ⟨w.heap.size, 0, none⟩ = some (.int .i64 0) := Kit.new_cell _ _ _ _
  have z1 : (w.alloc (.cells #[.int .i64 0, .int .i64 0] 50)).cell? ⟨w.heap.size, 1, none⟩ = some (.int .i64 0) := Kit.new_cell _ _ _ _
  have f0 : (w.alloc (.cells #[.int .i64 0, .int .i64 0] 50)).frozen? ⟨w.heap.size, 0, none⟩ = false := World.frozen?_alloc_at _ _ _ _ rfl
  have f1 : (w.alloc (.cells #[.int .i64 0, .int .i64 0] 50)).frozen? ⟨w.heap.size, 1, none⟩ = false := World.frozen?_alloc_at _ _ _ _ rfl
  clear hr hb hR hM
  go_enter Try.func14, Try.ntmps14
  go_upto_region 1 with fail
  generalize hw1 : w.alloc (.cells #[.int .i64 0, .int .i64 0] 50) = W1 at HB HR z0 z1 f0 f1 ⊢
  clear hw1
  go_wp2_with fail
  go_at_call 24
  refine (C1.out _ HR.out).mono ?_
  rintro e w2 ⟨rfl, rfl⟩
  go_wp2_with fail
  go_at_call 25
  refine (C2.out _ HR.out).mono ?_
  rintro e w3 ⟨rfl, m, hm⟩
  have HB3 := Lib.hid (show Below w.heap.size w w3 by rw [hm]; exact Kit.below_drewN HB.out m)
  replace z0 : w3.cell? ⟨w.heap.size, 0, none⟩ = some (.int .i64 0) := by rw [hm]; exact z0
  replace z1 : w3.cell? ⟨w.heap.size, 1, none⟩ = some (.int .i64 0) := by rw [hm]; exact z1
  replace f0 : w3.frozen? ⟨w.heap.size, 0, none⟩ = false := by rw [hm]; exact f0
  replace f1 : w3.frozen? ⟨w.heap.size, 1, none⟩ = false := by rw [hm]; exact f1
  clear hm HR HB
  go_wp2_with fail
  refine bodyPost_ret (Kit.results_c rfl _ _ w.heap.size 0 [.int .i64 R, .int .i64 M] _ rfl (Kit.range_2 (by go_cell) (by go_cell)) Try.underlying50 rfl (by kernel_rfl)) rfl ?_
  exact ⟨rfl, (HB3.out.setCell (p := ⟨w.heap.size, 0, none⟩) (by simp) _).setCell (p := ⟨w.heap.size, 1, none⟩) (by simp) _⟩
set_option maxHeartbeats 2000000 in
theorem look_bad (H W C : Int) (A : Option Addr) (n c : Nat) (WA BA : Option Addr) (nW cW nB cB : Nat) (D N : Int) (ht : tensB H W C n = false) (w : World) :
    Calls Try.prog 7 #[.agg #[.int .i64 H, .int .i64 W, .int .i64 C, .slice A n c], .agg #[.slice WA nW cW, .slice BA nB cB, .int .i32 D], .int .i64 N] w fun e' w' => e' = .returned (.tuple #[.agg #[.int .i64 0, .int .i64 0, .slice none 0 0, .bool false], .int .i64 5]) ∧ Below w.heap.size w w' := by
  have HT := Lib.hid ht
  clear ht
  go_enter Try.func7, Try.ntmps7
  go_wp2_with fail
  go_at_call 12
  have hal : Below w.heap.size w (((w.alloc (.cells #[.int .i64 H, .int .i64 W, .int .i64 C, .slice A n c] 26)).alloc (.cells #[.slice WA nW cW, .slice BA nB cB, .int .i32 D] 29)).alloc (.cells #[.int .i64 0, .int .i64 0, .slice none 0 0, .bool false] 33)) := (((Below.refl _ _).alloc (by first | exact Nat.le_refl _ | (simp; done) | (simp; omega)) _).alloc (by first | exact Nat.le_refl _ | (simp; done) | (simp; omega)) _).alloc (by first | exact Nat.le_refl _ | (simp; done) | (simp; omega)) _
  refine (right_to H W C A n c false HT.out _).mono ?_
  rintro e w1 ⟨rfl, hb⟩
  have hh : Below w.heap.size w w1 := hal.trans (hb.mono hal.size)
  have qTB := (boxNew H W C A n c 26) w
  try simp only [World.size_alloc] at qTB
  have TB := Lib.hid ((qTB.below (B' := w.heap.size + 1) (by omega) ((((Below.refl _ _).alloc (by first | exact Nat.le_refl _ | (simp; done) | (simp; omega)) _).alloc (by first | exact Nat.le_refl _ | (simp; done) | (simp; omega)) _).mono (by simp))).below (by first | (simp; done) | (simp; omega)) hb)
  have yTB : w.heap.size < w1.heap.size := by have := hb.size; simp at this; omega
  clear qTB
  have qTH := (headNew WA BA nW cW nB cB D 29) (w.alloc (.cells #[.int .i64 H, .int .i64 W, .int .i64 C, .slice A n c] 26))
  try simp only [World.size_alloc] at qTH
  have TH := Lib.hid ((qTH.below (B' := w.heap.size + 2) (by omega) (((Below.refl _ _).alloc (by first | exact Nat.le_refl _ | (simp; done) | (simp; omega)) _).mono (by simp))).below (by first | (simp; done) | (simp; omega)) hb)
  have yTH : w.heap.size + 1 < w1.heap.size := by have := hb.size; simp at this; omega
  clear qTH
  have qFR := (freshV 33) ((w.alloc (.cells #[.int .i64 H, .int .i64 W, .int .i64 C, .slice A n c] 26)).alloc (.cells #[.slice WA nW cW, .slice BA nB cB, .int .i32 D] 29))
  try simp only [World.size_alloc] at qFR
  have FR := Lib.hid (qFR.below (by first | (simp; done) | (simp; omega)) hb)
  have yFR : w.heap.size + 2 < w1.heap.size := by have := hb.size; simp at this; omega
  clear qFR
  have HBW : Hid (Below w.heap.size w w1) := Lib.hid hh
  obtain ⟨tbp0, tbp1, tbp2, tbp3⟩ := TB.out
  obtain ⟨thp0, thp1, thp2⟩ := TH.out
  clear hb hh hal
  obtain ⟨⟨z0, z1, z2, z3⟩, z4, z5, z6, z7⟩ := FR.out
  go_wp2_with fail
  refine bodyPost_ret (Kit.results_ct rfl _ _ (w.heap.size + 2) 0 [.int .i64 0, .int .i64 0, .slice none 0 0, .bool false] _ rfl (range_4 (by go_cell) (by go_cell) (by go_cell) (by go_cell)) Try.underlying33 rfl (by kernel_rfl)) rfl ?_
  exact ⟨rfl, (((HBW.out.setCell (p := ⟨w.heap.size + 2, 0, none⟩) (by simp) _).setCell (p := ⟨w.heap.size + 2, 1, none⟩) (by simp) _).setCell (p := ⟨w.heap.size + 2, 2, none⟩) (by simp) _).setCell (p := ⟨w.heap.size + 2, 3, none⟩) (by simp) _⟩
set_option maxHeartbeats 2000000 in
theorem look_err (H W C : Int) (A : Option Addr) (n c : Nat) (WA BA : Option Addr) (nW cW nB cB : Nat) (D N : Int) (ht : tensB H W C n = true) (er : Int) (he : verdE H W C nW nB D N = er) (hne : er ≠ 0) (w : World) :
    Calls Try.prog 7 #[.agg #[.int .i64 H, .int .i64 W, .int .i64 C, .slice A n c], .agg #[.slice WA nW cW, .slice BA nB cB, .int .i32 D], .int .i64 N] w fun e' w' => e' = .returned (.tuple #[.agg #[.int .i64 0, .int .i64 0, .slice none 0 0, .bool false], .int .i64 er]) ∧ Below w.heap.size w w' := by
  have HT := Lib.hid ht
  have HE := Lib.hid he
  have q1 : (er != 0) = true := by simpa using hne
  clear ht he
  go_enter Try.func7, Try.ntmps7
  go_wp2_with fail
  go_at_call 12
  have hal : Below w.heap.size w (((w.alloc (.cells #[.int .i64 H, .int .i64 W, .int .i64 C, .slice A n c] 26)).alloc (.cells #[.slice WA nW cW, .slice BA nB cB, .int .i32 D] 29)).alloc (.cells #[.int .i64 0, .int .i64 0, .slice none 0 0, .bool false] 33)) := (((Below.refl _ _).alloc (by first | exact Nat.le_refl _ | (simp; done) | (simp; omega)) _).alloc (by first | exact Nat.le_refl _ | (simp; done) | (simp; omega)) _).alloc (by first | exact Nat.le_refl _ | (simp; done) | (simp; omega)) _
  refine (right_to H W C A n c true HT.out _).mono ?_
  rintro e w1 ⟨rfl, hb⟩
  have hh : Below w.heap.size w w1 := hal.trans (hb.mono hal.size)
  have qTB := (boxNew H W C A n c 26) w
  try simp only [World.size_alloc] at qTB
  have TB := Lib.hid ((qTB.below (B' := w.heap.size + 1) (by omega) ((((Below.refl _ _).alloc (by first | exact Nat.le_refl _ | (simp; done) | (simp; omega)) _).alloc (by first | exact Nat.le_refl _ | (simp; done) | (simp; omega)) _).mono (by simp))).below (by first | (simp; done) | (simp; omega)) hb)
  have yTB : w.heap.size < w1.heap.size := by have := hb.size; simp at this; omega
  clear qTB
  have qTH := (headNew WA BA nW cW nB cB D 29) (w.alloc (.cells #[.int .i64 H, .int .i64 W, .int .i64 C, .slice A n c] 26))
  try simp only [World.size_alloc] at qTH
  have TH := Lib.hid ((qTH.below (B' := w.heap.size + 2) (by omega) (((Below.refl _ _).alloc (by first | exact Nat.le_refl _ | (simp; done) | (simp; omega)) _).mono (by simp))).below (by first | (simp; done) | (simp; omega)) hb)
  have yTH : w.heap.size + 1 < w1.heap.size := by have := hb.size; simp at this; omega
  clear qTH
  have qFR := (freshV 33) ((w.alloc (.cells #[.int .i64 H, .int .i64 W, .int .i64 C, .slice A n c] 26)).alloc (.cells #[.slice WA nW cW, .slice BA nB cB, .int .i32 D] 29))
  try simp only [World.size_alloc] at qFR
  have FR := Lib.hid (qFR.below (by first | (simp; done) | (simp; omega)) hb)
  have yFR : w.heap.size + 2 < w1.heap.size := by have := hb.size; simp at this; omega
  clear qFR
  have HBW : Hid (Below w.heap.size w w1) := Lib.hid hh
  obtain ⟨tbp0, tbp1, tbp2, tbp3⟩ := TB.out
  obtain ⟨thp0, thp1, thp2⟩ := TH.out
  clear hb hh hal
  go_wp2_with fail
  go_at_call 10
  have hal : Below w1.heap.size w1 w1 := Below.refl _ _
  refine (chk_to H W C WA BA nW cW nB cB D N er HE.out _).mono ?_
  rintro e w2 ⟨rfl, hb⟩
  have hh : Below w1.heap.size w1 w2 := hal.trans (hb.mono hal.size)
  replace TB := Lib.hid (TB.out.below yTB hh)
  replace yTB := Nat.lt_of_lt_of_le yTB hh.size
  replace TH := Lib.hid (TH.out.below yTH hh)
  replace yTH := Nat.lt_of_lt_of_le yTH hh.size
  replace FR := Lib.hid (FR.out.below yFR hh)
  replace yFR := Nat.lt_of_lt_of_le yFR hh.size
  replace HBW := Lib.hid (HBW.out.trans (hh.mono HBW.out.size))
  clear tbp0 tbp1 tbp2 tbp3 thp0 thp1 thp2
  obtain ⟨tbp0, tbp1, tbp2, tbp3⟩ := TB.out
  obtain ⟨thp0, thp1, thp2⟩ := TH.out
  clear hb hh hal
  obtain ⟨⟨z0, z1, z2, z3⟩, z4, z5, z6, z7⟩ := FR.out
  go_wp2_with fail
  refine bodyPost_ret (Kit.results_ct rfl _ _ (w.heap.size + 2) 0 [.int .i64 0, .int .i64 0, .slice none 0 0, .bool false] _ rfl (range_4 (by go_cell) (by go_cell) (by go_cell) (by go_cell)) Try.underlying33 rfl (by kernel_rfl)) rfl ?_
  exact ⟨rfl, (((HBW.out.setCell (p := ⟨w.heap.size + 2, 0, none⟩) (by simp) _).setCell (p := ⟨w.heap.size + 2, 1, none⟩) (by simp) _).setCell (p := ⟨w.heap.size + 2, 2, none⟩) (by simp) _).setCell (p := ⟨w.heap.size + 2, 3, none⟩) (by simp) _⟩
set_option maxHeartbeats 4000000 in
theorem look_yes (H W C : Int) (A : Option Addr) (zs : List Int) (n c : Nat) (hn : zs.length = n) (ht : tensB H W C n = true) (hz : I8b zs) (WA BA : Option Addr) (nW cW nB cB : Nat) (D N : Int) (ws : List Int) (hws : ws.length = nW) (hwc : nW ≤ cW) (hwb : I8b ws) (bs : List Int) (hbs : bs.length = nB) (hb32 : ∀ q, -2147483648 ≤ bs.getD q 0 ∧ bs.getD q 0 ≤ 2147483647)
    (he : verdE H W C nW nB D N = 0) (hD : D ≤ 2147483647) (F : Nat → Int) (hF : ∀ o, lineF zs ws bs n 0 o = F o) (R M : Int) (hR : CRank.grF F (-1) nB = R) (hM : CRank.margF F nB = M) (b : Bool) (hDM : decide (D ≤ M) = b) (w : World) (hr : Kit.Rd w w.heap.size A (I8s zs)) (hrw : Kit.Rd w w.heap.size WA (I8s ws)) (hrb : Kit.Rd w w.heap.size BA (I32v bs)) :
    Calls Try.prog 7 #[.agg #[.int .i64 H, .int .i64 W, .int .i64 C, .slice A n c], .agg #[.slice WA nW cW, .slice BA nB cB, .int .i32 D], .int .i64 N] w (MadeV w R M nB (rowL F nB) b) := by
  obtain ⟨m1, m2, m3, m4, m5, m6⟩ := verd_num he ht
  have hDw : IntKind.i64.wrap D = D := IntWalk.i64_in _ (by have := (verdE_ok he).2.2.2; omega)
  have hFb : CRank.I32b F := fun k => by rw [← hF k]; unfold lineF; exact wrap32_bd _
  have hline := fun (w' : World) (r1 : Kit.Rd w' w'.heap.size A (I8s zs)) (r2 : Kit.Rd w' w'.heap.size WA (I8s ws)) (r3 : Kit.Rd w' w'.heap.size BA (I32v bs)) =>
    line_yes A zs n c hn m1 (by omega) hz WA ws nW cW hws hwc hwb BA bs nB cB hbs (by omega) (by omega) m5 (by omega) 0 (by decide) (by decide) F hF w' r1 r2 r3
  have HL := Lib.hid hline
  have HT := Lib.hid ht
  have HE := Lib.hid he
  have HR := Lib.hid hr
  have HRW := Lib.hid hrw
  have HRB := Lib.hid hrb
  have CK := Lib.hid (fun (A3 : Option Addr) (c3 : Nat) (w' : World) (r : Kit.Rd w' w'.heap.size A3 (I32v (rowL F nB))) => ranked_to F hFb nB (by omega) A3 c3 R M hR hM w' r)
  clear hline ht he hr hrw hrb hn hws hwb hbs hz hF hR hM hFb hb32 hwc m1 m2 m3 m5 m6
  go_enter Try.func7, Try.ntmps7
  go_wp2_with fail
  go_at_call 12
  have hal : Below w.heap.size w (((w.alloc (.cells #[.int .i64 H, .int .i64 W, .int .i64 C, .slice A n c] 26)).alloc (.cells #[.slice WA nW cW, .slice BA nB cB, .int .i32 D] 29)).alloc (.cells #[.int .i64 0, .int .i64 0, .slice none 0 0, .bool false] 33)) := (((Below.refl _ _).alloc (by first | exact Nat.le_refl _ | (simp; done) | (simp; omega)) _).alloc (by first | exact Nat.le_refl _ | (simp; done) | (simp; omega)) _).alloc (by first | exact Nat.le_refl _ | (simp; done) | (simp; omega)) _
  refine (right_to H W C A n c true HT.out _).mono ?_
  rintro e w1 ⟨rfl, hb⟩
  have hh : Below w.heap.size w w1 := hal.trans (hb.mono hal.size)
  have qTB := (boxNew H W C A n c 26) w
  try simp only [World.size_alloc] at qTB
  have TB := Lib.hid ((qTB.below (B' := w.heap.size + 1) (by omega) ((((Below.refl _ _).alloc (by first | exact Nat.le_refl _ | (simp; done) | (simp; omega)) _).alloc (by first | exact Nat.le_refl _ | (simp; done) | (simp; omega)) _).mono (by simp))).below (by first | (simp; done) | (simp; omega)) hb)
  have yTB : w.heap.size < w1.heap.size := by have := hb.size; simp at this; omega
  clear qTB
  have qTH := (headNew WA BA nW cW nB cB D 29) (w.alloc (.cells #[.int .i64 H, .int .i64 W, .int .i64 C, .slice A n c] 26))
  try simp only [World.size_alloc] at qTH
  have TH := Lib.hid ((qTH.below (B' := w.heap.size + 2) (by omega) (((Below.refl _ _).alloc (by first | exact Nat.le_refl _ | (simp; done) | (simp; omega)) _).mono (by simp))).below (by first | (simp; done) | (simp; omega)) hb)
  have yTH : w.heap.size + 1 < w1.heap.size := by have := hb.size; simp at this; omega
  clear qTH
  have qFR := (freshV 33) ((w.alloc (.cells #[.int .i64 H, .int .i64 W, .int .i64 C, .slice A n c] 26)).alloc (.cells #[.slice WA nW cW, .slice BA nB cB, .int .i32 D] 29))
  try simp only [World.size_alloc] at qFR
  have FR := Lib.hid (qFR.below (by first | (simp; done) | (simp; omega)) hb)
  have yFR : w.heap.size + 2 < w1.heap.size := by have := hb.size; simp at this; omega
  clear qFR
  replace HR := Lib.hid ((HR.out.below hh).more hh.size)
  replace HRW := Lib.hid ((HRW.out.below hh).more hh.size)
  replace HRB := Lib.hid ((HRB.out.below hh).more hh.size)
  have HBW : Hid (Below w.heap.size w w1) := Lib.hid hh
  obtain ⟨tbp0, tbp1, tbp2, tbp3⟩ := TB.out
  obtain ⟨thp0, thp1, thp2⟩ := TH.out
  clear hb hh hal
  go_wp2_with fail
  go_at_call 10
  have hal : Below w1.heap.size w1 w1 := Below.refl _ _
  refine (chk_to H W C WA BA nW cW nB cB D N 0 HE.out _).mono ?_
  rintro e w2 ⟨rfl, hb⟩
  have hh : Below w1.heap.size w1 w2 := hal.trans (hb.mono hal.size)
  replace TB := Lib.hid (TB.out.below yTB hh)
  replace yTB := Nat.lt_of_lt_of_le yTB hh.size
  replace TH := Lib.hid (TH.out.below yTH hh)
  replace yTH := Nat.lt_of_lt_of_le yTH hh.size
  replace FR := Lib.hid (FR.out.below yFR hh)
  replace yFR := Nat.lt_of_lt_of_le yFR hh.size
  replace HR := Lib.hid ((HR.out.below hh).more hh.size)
  replace HRW := Lib.hid ((HRW.out.below hh).more hh.size)
  replace HRB := Lib.hid ((HRB.out.below hh).more hh.size)
  replace HBW := Lib.hid (HBW.out.trans (hh.mono HBW.out.size))
  clear tbp0 tbp1 tbp2 tbp3 thp0 thp1 thp2
  have hg2 : w.heap.size + 2 < w2.heap.size := yFR
  obtain ⟨tbp0, tbp1, tbp2, tbp3⟩ := TB.out
  obtain ⟨thp0, thp1, thp2⟩ := TH.out
  clear hb hh hal
  go_wp2_with fail
  go_at_call 13
  have hal : Below w2.heap.size w2 w2 := Below.refl _ _
  refine (HL.out _ ((HR.out.below hal).more hal.size) ((HRW.out.below hal).more hal.size) ((HRB.out.below hal).more hal.size)).mono ?_
  rintro e w3 ⟨v3, rfl, ho, hb⟩
  have hh : Below w2.heap.size w2 w3 := hal.trans (hb.mono hal.size)
  replace TB := Lib.hid (TB.out.below yTB hh)
  replace yTB := Nat.lt_of_lt_of_le yTB hh.size
  replace TH := Lib.hid (TH.out.below yTH hh)
  replace yTH := Nat.lt_of_lt_of_le yTH hh.size
  replace FR := Lib.hid (FR.out.below yFR hh)
  replace yFR := Nat.lt_of_lt_of_le yFR hh.size
  replace HR := Lib.hid ((HR.out.below hh).more hh.size)
  replace HRW := Lib.hid ((HRW.out.below hh).more hh.size)
  replace HRB := Lib.hid ((HRB.out.below hh).more hh.size)
  replace HBW := Lib.hid (HBW.out.trans (hh.mono HBW.out.size))
  clear tbp0 tbp1 tbp2 tbp3 thp0 thp1 thp2
  obtain ⟨A3, c3, rfl, -, -, hrd⟩ := Kit.own_rd ho
  have RL := Lib.hid hrd
  have HO := Lib.hid ho
  clear ho hrd
  obtain ⟨tbp0, tbp1, tbp2, tbp3⟩ := TB.out
  obtain ⟨thp0, thp1, thp2⟩ := TH.out
  clear hb hh hal
  go_upto_region 7 with fail
  have HB3 := Lib.hid (Below.refl w3.heap.size w3)
  have hg3 : w.heap.size + 3 ≤ w3.heap.size := yFR
  refine wp_region_held_drew (S := fun w' => w'.cell? ⟨w.heap.size + 1, 2, none⟩ = some (.int .i32 D)) (by kernel_rfl) thp2 (fun hHeld => ?_)
  clear TB TH tbp0 tbp1 tbp2 tbp3 thp0 thp1 thp2 yTB yTH HR HRW HRB HL
  replace HBW := Lib.hid HBW.out.drew
  replace HB3 := Lib.hid HB3.out.drew
  replace RL : Hid (Kit.Rd w3.drew w3.drew.heap.size A3 (I32v (rowL F nB))) := Lib.hid RL.out
  replace FR := Lib.hid (FR.out.below yFR (Below.refl _ _).drew)
  have hgd : w3.heap.size ≤ w3.drew.heap.size := Nat.le_refl _
  clear yFR
  generalize w3.drew = Wd at HBW HB3 RL FR hgd hHeld ⊢
  refine Tk.x 0 rfl ?_
  try simp only [Tk.put]
  refine Tk.x 2 rfl ?_
  try simp only [Tk.put]
  refine Tk.x 3 rfl ?_
  try simp only [Tk.put]
  refine Tk.x 4 rfl ?_
  try simp only [Tk.put]
  refine wpAnyH_ready (rs := [1, 6]) (by kernel_rfl) (by simp) ?_
  refine Tk.c rfl (fun K hK => ?_) (Tk.c rfl (fun K hK => ?_) AllReadyH.nil)
  · skip
    go_simp
    go_at_call 14
    refine (CK.out _ _ _ RL.out).mono ?_
    rintro e we ⟨rfl, hb⟩
    have hS2 := (hb.cell (p := ⟨w.heap.size + 1, 2, none⟩) (by simp; omega)).trans hHeld
    replace HBW := Lib.hid (HBW.out.trans (hb.mono HBW.out.size))
    replace HB3 := Lib.hid (HB3.out.trans (hb.mono HB3.out.size))
    replace FR := Lib.hid (FR.out.below (show w.heap.size + 2 < Wd.heap.size by omega) hb)
    replace RL := Lib.hid ((RL.out.below hb).more hb.size)
    have hgd2 : w3.heap.size ≤ we.heap.size := Nat.le_trans hgd hb.size
    clear hHeld hb hgd
    dsimp only
    refine hK.out _ _ hS2 (fun hHeld => ?_)
    clear hK K hS2
    have hgd := hgd2
    clear hgd2
    try simp only [Tk.put]
    refine Tk.x 5 rfl ?_
    try simp only [Tk.put]
    refine Tk.s 6 rfl (fun K hK => ?_)
    go_simp
    have FX := Lib.hid (FreshS.new 53 we)
    have hb : Below we.heap.size we (we.alloc (.cells #[.int .i64 0, .int .i64 0, .int .i64 0] 53)) := (Below.refl _ _).alloc (Nat.le_refl _) _
    have hbx : we.heap.size < (we.alloc (.cells #[.int .i64 0, .int .i64 0, .int .i64 0] 53)).heap.size := by simp
    have hS2 := (hb.cell (p := ⟨w.heap.size + 1, 2, none⟩) (by simp; omega)).trans hHeld
    replace HBW := Lib.hid (HBW.out.trans (hb.mono HBW.out.size))
    replace HB3 := Lib.hid (HB3.out.trans (hb.mono HB3.out.size))
    replace FR := Lib.hid (FR.out.below (show w.heap.size + 2 < we.heap.size by omega) hb)
    replace RL := Lib.hid ((RL.out.below hb).more hb.size)
    have hgd2 : w3.heap.size ≤ (we.alloc (.cells #[.int .i64 0, .int .i64 0, .int .i64 0] 53)).heap.size := Nat.le_trans hgd hb.size
    have hge : w3.heap.size ≤ we.heap.size := hgd
    clear hHeld hb hgd
    generalize hbxe : we.heap.size = bx at *
    generalize we.alloc (.cells #[.int .i64 0, .int .i64 0, .int .i64 0] 53) = Wf at FX hbx hS2 HBW HB3 FR RL hgd2 ⊢
    clear hbxe
    refine hK.out _ _ hS2 (fun hHeld => ?_)
    clear hK K hS2
    have hgd := hgd2
    clear hgd2
    try simp only [Tk.put]
    obtain ⟨⟨x0, x1, x2⟩, x4, x5, x6⟩ := FX.out
    have u1 : bx ≠ w.heap.size + 1 := by omega
    have u2 : w.heap.size + 1 ≠ bx := by omega
    refine Tk.s 7 rfl (fun K hK => ?_)
    go_simp
    have hS2 : ((((Wf).setCell ⟨bx, 0, none⟩ (.int .i64 R)).setCell ⟨bx, 1, none⟩ (.int .i64 M)).setCell ⟨bx, 2, none⟩ (.int .i64 D)).cell? ⟨w.heap.size + 1, 2, none⟩ = some (.int .i32 D) := by go_cell
    have y0 : ((((Wf).setCell ⟨bx, 0, none⟩ (.int .i64 R)).setCell ⟨bx, 1, none⟩ (.int .i64 M)).setCell ⟨bx, 2, none⟩ (.int .i64 D)).cell? ⟨bx, 0, none⟩ = some (.int .i64 R) := by go_cell
    have y1 : ((((Wf).setCell ⟨bx, 0, none⟩ (.int .i64 R)).setCell ⟨bx, 1, none⟩ (.int .i64 M)).setCell ⟨bx, 2, none⟩ (.int .i64 D)).cell? ⟨bx, 1, none⟩ = some (.int .i64 M) := by go_cell
    have y2 : ((((Wf).setCell ⟨bx, 0, none⟩ (.int .i64 R)).setCell ⟨bx, 1, none⟩ (.int .i64 M)).setCell ⟨bx, 2, none⟩ (.int .i64 D)).cell? ⟨bx, 2, none⟩ = some (.int .i64 D) := by go_cell
    have hb : Below w3.heap.size Wf ((((Wf).setCell ⟨bx, 0, none⟩ (.int .i64 R)).setCell ⟨bx, 1, none⟩ (.int .i64 M)).setCell ⟨bx, 2, none⟩ (.int .i64 D)) := (((Below.refl _ _).setCell (p := ⟨bx, 0, none⟩) hge _).setCell (p := ⟨bx, 1, none⟩) hge _).setCell (p := ⟨bx, 2, none⟩) hge _
    replace HBW := Lib.hid (HBW.out.trans (hb.mono (by omega)))
    replace HB3 := Lib.hid (HB3.out.trans hb)
    replace FR := Lib.hid (FR.out.below (show w.heap.size + 2 < w3.heap.size by omega) hb)
    clear hHeld hb x0 x1 x2 x4 x5 x6 FX hbx hgd RL
    generalize (((Wf).setCell ⟨bx, 0, none⟩ (.int .i64 R)).setCell ⟨bx, 1, none⟩ (.int .i64 M)).setCell ⟨bx, 2, none⟩ (.int .i64 D) = W9 at hS2 y0 y1 y2 HBW HB3 FR ⊢
    refine hK.out _ _ hS2 (fun hHeld => ?_)
    clear hK K hS2
    try simp only [Tk.put]
    refine wpAnyH_done (by kernel_rfl) ?_ _
    have HOW := Lib.hid (Kit.own_below HO.out HB3.out)
    obtain ⟨⟨z0, z1, z2, z3⟩, z4, z5, z6, z7⟩ := FR.out
    have u3 : bx ≠ w.heap.size + 2 := by omega
    have u4 : w.heap.size + 2 ≠ bx := by omega
    clear hHeld HB3 HO
    go_wp2_with fail
    refine bodyPost_ret (Kit.results_ct rfl _ _ (w.heap.size + 2) 0 [.int .i64 R, .int .i64 M, .slice A3 nB c3, .bool b] _ rfl (range_4 (by go_cell) (by go_cell) (by go_cell) (by go_cell)) Try.underlying33 rfl (by kernel_rfl)) rfl ?_
    refine ⟨_, rfl, Kit.own_base (own_set4 HOW.out (by omega)) (by omega), ?_⟩
    exact (((HBW.out.setCell (p := ⟨w.heap.size + 2, 0, none⟩) (by simp) _).setCell (p := ⟨w.heap.size + 2, 1, none⟩) (by simp) _).setCell (p := ⟨w.heap.size + 2, 2, none⟩) (by simp) _).setCell (p := ⟨w.heap.size + 2, 3, none⟩) (by simp) _
  · skip
    go_simp
    have FX := Lib.hid (FreshS.new 53 Wd)
    have hb : Below Wd.heap.size Wd (Wd.alloc (.cells #[.int .i64 0, .int .i64 0, .int .i64 0] 53)) := (Below.refl _ _).alloc (Nat.le_refl _) _
    have hbx : Wd.heap.size < (Wd.alloc (.cells #[.int .i64 0, .int .i64 0, .int .i64 0] 53)).heap.size := by simp
    have hS2 := (hb.cell (p := ⟨w.heap.size + 1, 2, none⟩) (by simp; omega)).trans hHeld
    replace HBW := Lib.hid (HBW.out.trans (hb.mono HBW.out.size))
    replace HB3 := Lib.hid (HB3.out.trans (hb.mono HB3.out.size))
    replace FR := Lib.hid (FR.out.below (show w.heap.size + 2 < Wd.heap.size by omega) hb)
    replace RL := Lib.hid ((RL.out.below hb).more hb.size)
    have hgd2 : w3.heap.size ≤ (Wd.alloc (.cells #[.int .i64 0, .int .i64 0, .int .i64 0] 53)).heap.size := Nat.le_trans hgd hb.size
    have hge : w3.heap.size ≤ Wd.heap.size := hgd
    clear hHeld hb hgd
    generalize hbxe : Wd.heap.size = bx at *
    generalize Wd.alloc (.cells #[.int .i64 0, .int .i64 0, .int .i64 0] 53) = We at FX hbx hS2 HBW HB3 FR RL hgd2 ⊢
    clear hbxe
    refine hK.out _ _ hS2 (fun hHeld => ?_)
    clear hK K hS2
    have hgd := hgd2
    clear hgd2
    try simp only [Tk.put]
    refine Tk.s 1 rfl (fun K hK => ?_)
    go_simp
    go_at_call 14
    refine (CK.out _ _ _ RL.out).mono ?_
    rintro e wf ⟨rfl, hb⟩
    have hS2 := (hb.cell (p := ⟨w.heap.size + 1, 2, none⟩) (by simp; omega)).trans hHeld
    replace HBW := Lib.hid (HBW.out.trans (hb.mono HBW.out.size))
    replace HB3 := Lib.hid (HB3.out.trans (hb.mono HB3.out.size))
    replace FR := Lib.hid (FR.out.below (show w.heap.size + 2 < We.heap.size by omega) hb)
    replace RL := Lib.hid ((RL.out.below hb).more hb.size)
    replace FX := Lib.hid (FX.out.below hbx hb)
    replace hbx := Nat.lt_of_lt_of_le hbx hb.size
    have hgd2 : w3.heap.size ≤ wf.heap.size := Nat.le_trans hgd hb.size
    clear hHeld hb hgd
    dsimp only
    refine hK.out _ _ hS2 (fun hHeld => ?_)
    clear hK K hS2
    have hgd := hgd2
    clear hgd2
    try simp only [Tk.put]
    refine Tk.x 5 rfl ?_
    try simp only [Tk.put]
    obtain ⟨⟨x0, x1, x2⟩, x4, x5, x6⟩ := FX.out
    have u1 : bx ≠ w.heap.size + 1 := by omega
    have u2 : w.heap.size + 1 ≠ bx := by omega
    refine Tk.s 7 rfl (fun K hK => ?_)
    go_simp
    have hS2 : ((((wf).setCell ⟨bx, 0, none⟩ (.int .i64 R)).setCell ⟨bx, 1, none⟩ (.int .i64 M)).setCell ⟨bx, 2, none⟩ (.int .i64 D)).cell? ⟨w.heap.size + 1, 2, none⟩ = some (.int .i32 D) := by go_cell
    have y0 : ((((wf).setCell ⟨bx, 0, none⟩ (.int .i64 R)).setCell ⟨bx, 1, none⟩ (.int .i64 M)).setCell ⟨bx, 2, none⟩ (.int .i64 D)).cell? ⟨bx, 0, none⟩ = some (.int .i64 R) := by go_cell
    have y1 : ((((wf).setCell ⟨bx, 0, none⟩ (.int .i64 R)).setCell ⟨bx, 1, none⟩ (.int .i64 M)).setCell ⟨bx, 2, none⟩ (.int .i64 D)).cell? ⟨bx, 1, none⟩ = some (.int .i64 M) := by go_cell
    have y2 : ((((wf).setCell ⟨bx, 0, none⟩ (.int .i64 R)).setCell ⟨bx, 1, none⟩ (.int .i64 M)).setCell ⟨bx, 2, none⟩ (.int .i64 D)).cell? ⟨bx, 2, none⟩ = some (.int .i64 D) := by go_cell
    have hb : Below w3.heap.size wf ((((wf).setCell ⟨bx, 0, none⟩ (.int .i64 R)).setCell ⟨bx, 1, none⟩ (.int .i64 M)).setCell ⟨bx, 2, none⟩ (.int .i64 D)) := (((Below.refl _ _).setCell (p := ⟨bx, 0, none⟩) hge _).setCell (p := ⟨bx, 1, none⟩) hge _).setCell (p := ⟨bx, 2, none⟩) hge _
    replace HBW := Lib.hid (HBW.out.trans (hb.mono (by omega)))
    replace HB3 := Lib.hid (HB3.out.trans hb)
    replace FR := Lib.hid (FR.out.below (show w.heap.size + 2 < w3.heap.size by omega) hb)
    clear hHeld hb x0 x1 x2 x4 x5 x6 FX hbx hgd RL
    generalize (((wf).setCell ⟨bx, 0, none⟩ (.int .i64 R)).setCell ⟨bx, 1, none⟩ (.int .i64 M)).setCell ⟨bx, 2, none⟩ (.int .i64 D) = W9 at hS2 y0 y1 y2 HBW HB3 FR ⊢
    refine hK.out _ _ hS2 (fun hHeld => ?_)
    clear hK K hS2
    try simp only [Tk.put]
    refine wpAnyH_done (by kernel_rfl) ?_ _
    have HOW := Lib.hid (Kit.own_below HO.out HB3.out)
    obtain ⟨⟨z0, z1, z2, z3⟩, z4, z5, z6, z7⟩ := FR.out
    have u3 : bx ≠ w.heap.size + 2 := by omega
    have u4 : w.heap.size + 2 ≠ bx := by omega
    clear hHeld HB3 HO
    go_wp2_with fail
    refine bodyPost_ret (Kit.results_ct rfl _ _ (w.heap.size + 2) 0 [.int .i64 R, .int .i64 M, .slice A3 nB c3, .bool b] _ rfl (range_4 (by go_cell) (by go_cell) (by go_cell) (by go_cell)) Try.underlying33 rfl (by kernel_rfl)) rfl ?_
    refine ⟨_, rfl, Kit.own_base (own_set4 HOW.out (by omega)) (by omega), ?_⟩
    exact (((HBW.out.setCell (p := ⟨w.heap.size + 2, 0, none⟩) (by simp) _).setCell (p := ⟨w.heap.size + 2, 1, none⟩) (by simp) _).setCell (p := ⟨w.heap.size + 2, 2, none⟩) (by simp) _).setCell (p := ⟨w.heap.size + 2, 3, none⟩) (by simp) _
end Go.Proofs.Ytmnhcmkcdchmkaa.CVerd
