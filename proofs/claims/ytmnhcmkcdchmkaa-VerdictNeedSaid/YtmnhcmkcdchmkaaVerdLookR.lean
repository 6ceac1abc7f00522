/- Layer 30 (verdict): what an exit tells: the document. Written by gen_verd2.py. -/
import Derived.Test.YtmnhcmkcdchmkaaTk
import Derived.Test.YtmnhcmkcdchmkaaVerdCheckR
import Derived.Test.YtmnhcmkcdchmkaaVerdLook
import Derived.Test.YtmnhcmkcdchmkaaRankRefTwo
import Derived.Deep.CutRange
namespace Go.Proofs.Ytmnhcmkcdchmkaa.CVerd
open Go Go.ChangeShapes Go.WideShapes Go.ChangeAt Go.RowKit Go.Deep
open Plain CSat CShape CTensor CConv CDense
set_option linter.unusedVariables false
set_option maxRecDepth 100000

set_option maxHeartbeats 2000000 in
theorem rlook_bad (H W C : Int) (A : Option Addr) (n c : Nat) (WA BA : Option Addr) (nW cW nB cB : Nat) (D N : Int) (ht : tensB H W C n = false) (w : World) :
    Calls Try.prog 8 #[.agg #[.int .i64 H, .int .i64 W, .int .i64 C, .slice A n c], .agg #[.slice WA nW cW, .slice BA nB cB, .int .i32 D], .int .i64 N] w fun e' w' => e' = .returned (.tuple #[.agg #[.int .i64 0, .int .i64 0, .slice none 0 0, .bool false], .int .i64 5]) ∧ Below w.heap.size w w' := by
  have HT := Lib.hid ht
  clear ht
  go_enter Try.func8, Try.ntmps8
  go_wp2_with fail
  go_at_call 15
  have hal : Below w.heap.size w (((w.alloc (.cells #[.int .i64 H, .int .i64 W, .int .i64 C, .slice A n c] 26)).alloc (.cells #[.slice WA nW cW, .slice BA nB cB, .int .i32 D] 29)).alloc (.cells #[.int .i64 0, .int .i64 0, .slice none 0 0, .bool false] 37)) := (((Below.refl _ _).alloc (by first | exact Nat.le_refl _ | (simp; done) | (simp; omega)) _).alloc (by first | exact Nat.le_refl _ | (simp; done) | (simp; omega)) _).alloc (by first | exact Nat.le_refl _ | (simp; done) | (simp; omega)) _
  refine (refRight_to H W C A n c false HT.out _).mono ?_
  rintro e w1 ⟨rfl, hb⟩
  have hh : Below w.heap.size w w1 := hal.trans (hb.mono hal.size)
  have qTB := (boxNew H W C A n c 26) w
  try simp only [World.size_alloc] at qTB
  have TB := Lib.hid ((qTB.below (B' := w.heap.size + 1) (by omega) ((((Below.refl _ _).alloc (by first | exact Nat.le_refl _ | (simp; done) | (simp; omega)) _).alloc (by first | exact Nat.le_refl _ | (simp; done) | (simp; omega)) _).mono (by simp))).below (by first | (simp; done) | (simp; omega)) hb)
  have yTB : w.heap.size < w1.heap.size := by have := hb.size; simp at this; omega
  clear qTB
  have qTH := (headNew WA BA nW cW nB cB D 29) (w.alloc (.cells #[.int .i64 H, .int .i64 W, .int .i64 C, .slice A n c] 26))
  try simp only [World.size_alloc] at qTH
  have TH := Lib.hid ((qTH.below (B' := w.heap.size + 2) (by omega) (((Below.refl _ _).alloc (by first | exact Nat.le_refl _ | (simp; done) | (simp; omega)) _).mono (by simp))).below (by first | (simp; done) | (simp; omega)) hb)
  have yTH : w.heap.size + 1 < w1.heap.size := by have := hb.size; simp at this; omega
  clear qTH
  have qFR := (freshV 37) ((w.alloc (.cells #[.int .i64 H, .int .i64 W, .int .i64 C, .slice A n c] 26)).alloc (.cells #[.slice WA nW cW, .slice BA nB cB, .int .i32 D] 29))
  try simp only [World.size_alloc] at qFR
  have FR := Lib.hid (qFR.below (by first | (simp; done) | (simp; omega)) hb)
  have yFR : w.heap.size + 2 < w1.heap.size := by have := hb.size; simp at this; omega
  clear qFR
  have HBW : Hid (Below w.heap.size w w1) := Lib.hid hh
  obtain ⟨tbp0, tbp1, tbp2, tbp3⟩ := TB.out
  obtain ⟨thp0, thp1, thp2⟩ := TH.out
  clear hb hh hal
  obtain ⟨⟨z0, z1, z2, z3⟩, z4, z5, z6, z7⟩ := FR.out
  go_wp2_with fail
  refine bodyPost_ret (Kit.results_ct rfl _ _ (w.heap.size + 2) 0 [.int .i64 0, .int .i64 0, .slice none 0 0, .bool false] _ rfl (range_4 (by go_cell) (by go_cell) (by go_cell) (by go_cell)) Try.underlying37 rfl (by kernel_rfl)) rfl ?_
  exact ⟨rfl, (((HBW.out.setCell (p := ⟨w.heap.size + 2, 0, none⟩) (by simp) _).setCell (p := ⟨w.heap.size + 2, 1, none⟩) (by simp) _).setCell (p := ⟨w.heap.size + 2, 2, none⟩) (by simp) _).setCell (p := ⟨w.heap.size + 2, 3, none⟩) (by simp) _⟩
set_option maxHeartbeats 2000000 in
theorem rlook_err (H W C : Int) (A : Option Addr) (n c : Nat) (WA BA : Option Addr) (nW cW nB cB : Nat) (D N : Int) (ht : tensB H W C n = true) (er : Int) (he : verdE H W C nW nB D N = er) (hne : er ≠ 0) (w : World) :
    Calls Try.prog 8 #[.agg #[.int .i64 H, .int .i64 W, .int .i64 C, .slice A n c], .agg #[.slice WA nW cW, .slice BA nB cB, .int .i32 D], .int .i64 N] w fun e' w' => e' = .returned (.tuple #[.agg #[.int .i64 0, .int .i64 0, .slice none 0 0, .bool false], .int .i64 er]) ∧ Below w.heap.size w w' := by
  have HT := Lib.hid ht
  have HE := Lib.hid he
  have q1 : (er != 0) = true := by simpa using hne
  clear ht he
  go_enter Try.func8, Try.ntmps8
  go_wp2_with fail
  go_at_call 15
  have hal : Below w.heap.size w (((w.alloc (.cells #[.int .i64 H, .int .i64 W, .int .i64 C, .slice A n c] 26)).alloc (.cells #[.slice WA nW cW, .slice BA nB cB, .int .i32 D] 29)).alloc (.cells #[.int .i64 0, .int .i64 0, .slice none 0 0, .bool false] 37)) := (((Below.refl _ _).alloc (by first | exact Nat.le_refl _ | (simp; done) | (simp; omega)) _).alloc (by first | exact Nat.le_refl _ | (simp; done) | (simp; omega)) _).alloc (by first | exact Nat.le_refl _ | (simp; done) | (simp; omega)) _
  refine (refRight_to H W C A n c true HT.out _).mono ?_
  rintro e w1 ⟨rfl, hb⟩
  have hh : Below w.heap.size w w1 := hal.trans (hb.mono hal.size)
  have qTB := (boxNew H W C A n c 26) w
  try simp only [World.size_alloc] at qTB
  have TB := Lib.hid ((qTB.below (B' := w.heap.size + 1) (by omega) ((((Below.refl _ _).alloc (by first | exact Nat.le_refl _ | (simp; done) | (simp; omega)) _).alloc (by first | exact Nat.le_refl _ | (simp; done) | (simp; omega)) _).mono (by simp))).below (by first | (simp; done) | (simp; omega)) hb)
  have yTB : w.heap.size < w1.heap.size := by have := hb.size; simp at this; omega
  clear qTB
  have qTH := (headNew WA BA nW cW nB cB D 29) (w.alloc (.cells #[.int .i64 H, .int .i64 W, .int .i64 C, .slice A n c] 26))
  try simp only [World.size_alloc] at qTH
  have TH := Lib.hid ((qTH.below (B' := w.heap.size + 2) (by omega) (((Below.refl _ _).alloc (by first | exact Nat.le_refl _ | (simp; done) | (simp; omega)) _).mono (by simp))).below (by first | (simp; done) | (simp; omega)) hb)
  have yTH : w.heap.size + 1 < w1.heap.size := by have := hb.size; simp at this; omega
  clear qTH
  have qFR := (freshV 37) ((w.alloc (.cells #[.int .i64 H, .int .i64 W, .int .i64 C, .slice A n c] 26)).alloc (.cells #[.slice WA nW cW, .slice BA nB cB, .int .i32 D] 29))
  try simp only [World.size_alloc] at qFR
  have FR := Lib.hid (qFR.below (by first | (simp; done) | (simp; omega)) hb)
  have yFR : w.heap.size + 2 < w1.heap.size := by have := hb.size; simp at this; omega
  clear qFR
  have HBW : Hid (Below w.heap.size w w1) := Lib.hid hh
  obtain ⟨tbp0, tbp1, tbp2, tbp3⟩ := TB.out
  obtain ⟨thp0, thp1, thp2⟩ := TH.out
  clear hb hh hal
  go_wp2_with fail
  go_at_call 11
  have hal : Below w1.heap.size w1 w1 := Below.refl _ _
  refine (rchk_to H W C WA BA nW cW nB cB D N er HE.out _).mono ?_
  rintro e w2 ⟨rfl, hb⟩
  have hh : Below w1.heap.size w1 w2 := hal.trans (hb.mono hal.size)
  replace TB := Lib.hid (TB.out.below yTB hh)
  replace yTB := Nat.lt_of_lt_of_le yTB hh.size
  replace TH := Lib.hid (TH.out.below yTH hh)
  replace yTH := Nat.lt_of_lt_of_le yTH hh.size
  replace FR := Lib.hid (FR.out.below yFR hh)
  replace yFR := Nat.lt_of_lt_of_le yFR hh.size
  replace HBW := Lib.hid (HBW.out.trans (hh.mono HBW.out.size))
  clear tbp0 tbp1 tbp2 tbp3 thp0 thp1 thp2
  obtain ⟨tbp0, tbp1, tbp2, tbp3⟩ := TB.out
  obtain ⟨thp0, thp1, thp2⟩ := TH.out
  clear hb hh hal
  obtain ⟨⟨z0, z1, z2, z3⟩, z4, z5, z6, z7⟩ := FR.out
  go_wp2_with fail
  refine bodyPost_ret (Kit.results_ct rfl _ _ (w.heap.size + 2) 0 [.int .i64 0, .int .i64 0, .slice none 0 0, .bool false] _ rfl (range_4 (by go_cell) (by go_cell) (by go_cell) (by go_cell)) Try.underlying37 rfl (by kernel_rfl)) rfl ?_
  exact ⟨rfl, (((HBW.out.setCell (p := ⟨w.heap.size + 2, 0, none⟩) (by simp) _).setCell (p := ⟨w.heap.size + 2, 1, none⟩) (by simp) _).setCell (p := ⟨w.heap.size + 2, 2, none⟩) (by simp) _).setCell (p := ⟨w.heap.size + 2, 3, none⟩) (by simp) _⟩
set_option maxHeartbeats 4000000 in
theorem rlook_yes (H W C : Int) (A : Option Addr) (zs : List Int) (n c : Nat) (hn : zs.length = n) (ht : tensB H W C n = true) (hz : I8b zs) (WA BA : Option Addr) (nW cW nB cB : Nat) (D N : Int) (ws : List Int) (hws : ws.length = nW) (hwc : nW ≤ cW) (hwb : I8b ws) (bs : List Int) (hbs : bs.length = nB) (hb32 : ∀ q, -2147483648 ≤ bs.getD q 0 ∧ bs.getD q 0 ≤ 2147483647)
    (he : verdE H W C nW nB D N = 0) (hD : D ≤ 2147483647) (F : Nat → Int) (hF : ∀ o, lineF zs ws bs n 0 o = F o) (R M : Int) (hR : CRank.grF F (-1) nB = R) (hM : CRank.margF F nB = M) (b : Bool) (hDM : decide (D ≤ M) = b) (w : World) (hr : Kit.Rd w w.heap.size A (I8s zs)) (hrw : Kit.Rd w w.heap.size WA (I8s ws)) (hrb : Kit.Rd w w.heap.size BA (I32v bs)) :
    Calls Try.prog 8 #[.agg #[.int .i64 H, .int .i64 W, .int .i64 C, .slice A n c], .agg #[.slice WA nW cW, .slice BA nB cB, .int .i32 D], .int .i64 N] w (MadeV w R M nB (rowL F nB) b) := by
  obtain ⟨m1, m2, m3, m4, m5, m6⟩ := verd_num he ht
  have hDw : IntKind.i64.wrap D = D := IntWalk.i64_in _ (by have := (verdE_ok he).2.2.2; omega)
  have hFb : CRank.I32b F := fun k => by rw [← hF k]; unfold lineF; exact wrap32_bd _
  have hline := fun (w' : World) (r1 : Kit.Rd w' w'.heap.size A (I8s zs)) (r2 : Kit.Rd w' w'.heap.size WA (I8s ws)) (r3 : Kit.Rd w' w'.heap.size BA (I32v bs)) =>
    refLine_yes A zs n c hn m1 (by omega) hz WA ws nW cW hws hwb BA bs nB cB hbs hb32 (by omega) (by omega) m5 (by omega) 0 (by decide) (by decide) F hF w' r1 r2 r3
  have HL := Lib.hid hline
  have HT := Lib.hid ht
  have HE := Lib.hid he
  have HR := Lib.hid hr
  have HRW := Lib.hid hrw
  have HRB := Lib.hid hrb
  have CB := Lib.hid (fun (A3 : Option Addr) (c3 : Nat) (w' : World) (r : Kit.Rd w' w'.heap.size A3 (I32v (rowL F nB))) => CRank.refBest_to F nB (by omega) A3 c3 R hR w' r)
  have CM := Lib.hid (fun (A3 : Option Addr) (c3 : Nat) (w' : World) (r : Kit.Rd w' w'.heap.size A3 (I32v (rowL F nB))) => CRank.refMargin_to F hFb nB (by omega) A3 c3 M hM w' r)
  clear hline ht he hr hrw hrb hn hws hwb hbs hz hF hR hM hFb hb32 hwc m1 m2 m3 m5 m6
  go_enter Try.func8, Try.ntmps8
  go_wp2_with fail
  go_at_call 15
  have hal : Below w.heap.size w (((w.alloc (.cells #[.int .i64 H, .int .i64 W, .int .i64 C, .slice A n c] 26)).alloc (.cells #[.slice WA nW cW, .slice BA nB cB, .int .i32 D] 29)).alloc (.cells #[.int .i64 0, .int .i64 0, .slice none 0 0, .bool false] 37)) := (((Below.refl _ _).alloc (by first | exact Nat.le_refl _ | (simp; done) | (simp; omega)) _).alloc (by first | exact Nat.le_refl _ | (simp; done) | (simp; omega)) _).alloc (by first | exact Nat.le_refl _ | (simp; done) | (simp; omega)) _
  refine (refRight_to H W C A n c true HT.out _).mono ?_
  rintro e w1 ⟨rfl, hb⟩
  have hh : Below w.heap.size w w1 := hal.trans (hb.mono hal.size)
  have qTB := (boxNew H W C A n c 26) w
  try simp only [World.size_alloc] at qTB
  have TB := Lib.hid ((qTB.below (B' := w.heap.size + 1) (by omega) ((((Below.refl _ _).alloc (by first | exact Nat.le_refl _ | (simp; done) | (simp; omega)) _).alloc (by first | exact Nat.le_refl _ | (simp; done) | (simp; omega)) _).mono (by simp))).below (by first | (simp; done) | (simp; omega)) hb)
  have yTB : w.heap.size < w1.heap.size := by have := hb.size; simp at this; omega
  clear qTB
  have qTH := (headNew WA BA nW cW nB cB D 29) (w.alloc (.cells #[.int .i64 H, .int .i64 W, .int .i64 C, .slice A n c] 26))
  try simp only [World.size_alloc] at qTH
  have TH := Lib.hid ((qTH.below (B' := w.heap.size + 2) (by omega) (((Below.refl _ _).alloc (by first | exact Nat.le_refl _ | (simp; done) | (simp; omega)) _).mono (by simp))).below (by first | (simp; done) | (simp; omega)) hb)
  have yTH : w.heap.size + 1 < w1.heap.size := by have := hb.size; simp at this; omega
  clear qTH
  have qFR := (freshV 37) ((w.alloc (.cells #[.int .i64 H, .int .i64 W, .int .i64 C, .slice A n c] 26)).alloc (.cells #[.slice WA nW cW, .slice BA nB cB, .int .i32 D] 29))
  try simp only [World.size_alloc] at qFR
  have FR := Lib.hid (qFR.below (by first | (simp; done) | (simp; omega)) hb)
  have yFR : w.heap.size + 2 < w1.heap.size := by have := hb.size; simp at this; omega
  clear qFR
  replace HR := Lib.hid ((HR.out.below hh).more hh.size)
  replace HRW := Lib.hid ((HRW.out.below hh).more hh.size)
  replace HRB := Lib.hid ((HRB.out.below hh).more hh.size)
  have HBW : Hid (Below w.heap.size w w1) := Lib.hid hh
  obtain ⟨tbp0, tbp1, tbp2, tbp3⟩ := TB.out
  obtain ⟨thp0, thp1, thp2⟩ := TH.out
  clear hb hh hal
  go_wp2_with fail
  go_at_call 11
  have hal : Below w1.heap.size w1 w1 := Below.refl _ _
  refine (rchk_to H W C WA BA nW cW nB cB D N 0 HE.out _).mono ?_
  rintro e w2 ⟨rfl, hb⟩
  have hh : Below w1.heap.size w1 w2 := hal.trans (hb.mono hal.size)
  replace TB := Lib.hid (TB.out.below yTB hh)
  replace yTB := Nat.lt_of_lt_of_le yTB hh.size
  replace TH := Lib.hid (TH.out.below yTH hh)
  replace yTH := Nat.lt_of_lt_of_le yTH hh.size
  replace FR := Lib.hid (FR.out.below yFR hh)
  replace yFR := Nat.lt_of_lt_of_le yFR hh.size
  replace HR := Lib.hid ((HR.out.below hh).more hh.size)
  replace HRW := Lib.hid ((HRW.out.below hh).more hh.size)
  replace HRB := Lib.hid ((HRB.out.below hh).more hh.size)
  replace HBW := Lib.hid (HBW.out.trans (hh.mono HBW.out.size))
  clear tbp0 tbp1 tbp2 tbp3 thp0 thp1 thp2
  have hg2 : w.heap.size + 2 < w2.heap.size := yFR
  obtain ⟨tbp0, tbp1, tbp2, tbp3⟩ := TB.out
  obtain ⟨thp0, thp1, thp2⟩ := TH.out
  clear hb hh hal
  go_wp2_with fail
  go_at_call 16
  have hal : Below w2.heap.size w2 w2 := Below.refl _ _
  refine (HL.out _ ((HR.out.below hal).more hal.size) ((HRW.out.below hal).more hal.size) ((HRB.out.below hal).more hal.size)).mono ?_
  rintro e w3 ⟨v3, rfl, ho, hb⟩
  have hh : Below w2.heap.size w2 w3 := hal.trans (hb.mono hal.size)
  replace TB := Lib.hid (TB.out.below yTB hh)
  replace yTB := Nat.lt_of_lt_of_le yTB hh.size
  replace TH := Lib.hid (TH.out.below yTH hh)
  replace yTH := Nat.lt_of_lt_of_le yTH hh.size
  replace FR := Lib.hid (FR.out.below yFR hh)
  replace yFR := Nat.lt_of_lt_of_le yFR hh.size
  replace HR := Lib.hid ((HR.out.below hh).more hh.size)
  replace HRW := Lib.hid ((HRW.out.below hh).more hh.size)
  replace HRB := Lib.hid ((HRB.out.below hh).more hh.size)
  replace HBW := Lib.hid (HBW.out.trans (hh.mono HBW.out.size))
  clear tbp0 tbp1 tbp2 tbp3 thp0 thp1 thp2
  obtain ⟨A3, c3, rfl, -, -, hrd⟩ := Kit.own_rd ho
  have RL := Lib.hid hrd
  have HO := Lib.hid ho
  clear ho hrd
  obtain ⟨tbp0, tbp1, tbp2, tbp3⟩ := TB.out
  obtain ⟨thp0, thp1, thp2⟩ := TH.out
  clear hb hh hal
  go_wp2_with fail
  go_at_call 17
  have hal : Below w3.heap.size w3 w3 := Below.refl _ _
  refine (CM.out _ _ _ RL.out).mono ?_
  rintro e w4 ⟨rfl, m4, hm4⟩
  have hb : Below w3.heap.size w3 w4 := by rw [hm4]; exact Kit.below_drewN (Below.refl _ _) m4
  replace RL := Lib.hid ((RL.out.below hb).more hb.size)
  replace HO := Lib.hid (Kit.own_below HO.out hb)
  clear hm4
  have hh : Below w3.heap.size w3 w4 := hal.trans (hb.mono hal.size)
  replace TB := Lib.hid (TB.out.below yTB hh)
  replace yTB := Nat.lt_of_lt_of_le yTB hh.size
  replace TH := Lib.hid (TH.out.below yTH hh)
  replace yTH := Nat.lt_of_lt_of_le yTH hh.size
  replace FR := Lib.hid (FR.out.below yFR hh)
  replace yFR := Nat.lt_of_lt_of_le yFR hh.size
  replace HR := Lib.hid ((HR.out.below hh).more hh.size)
  replace HRW := Lib.hid ((HRW.out.below hh).more hh.size)
  replace HRB := Lib.hid ((HRB.out.below hh).more hh.size)
  replace HBW := Lib.hid (HBW.out.trans (hh.mono HBW.out.size))
  clear tbp0 tbp1 tbp2 tbp3 thp0 thp1 thp2
  obtain ⟨tbp0, tbp1, tbp2, tbp3⟩ := TB.out
  obtain ⟨thp0, thp1, thp2⟩ := TH.out
  clear hb hh hal
  go_upto_region 8 with fail
  have hg3 : w.heap.size + 3 ≤ w4.heap.size := yFR
  refine wp_region_held_drew (S := fun w' => w'.cell? ⟨w.heap.size + 1, 2, none⟩ = some (.int .i32 D)) (by kernel_rfl) thp2 (fun hHeld => ?_)
  clear TB TH tbp0 tbp1 tbp2 tbp3 thp0 thp1 thp2 yTB yTH HR HRW HRB HL
  replace FR := Lib.hid (FR.out.below yFR (Below.refl _ _).drew)
  replace HBW := Lib.hid HBW.out.drew
  replace HO := Lib.hid (Kit.own_below HO.out (Below.refl _ _).drew)
  replace RL : Hid (Kit.Rd w4.drew w4.drew.heap.size A3 (I32v (rowL F nB))) := Lib.hid RL.out
  have hgd : w.heap.size + 3 ≤ w4.drew.heap.size := hg3
  clear yFR hg3
  generalize w4.drew = Wd at HBW HO RL FR hgd hHeld ⊢
  refine Tk.x 0 rfl ?_
  try simp only [Tk.put]
  refine Tk.x 2 rfl ?_
  try simp only [Tk.put]
  refine Tk.x 3 rfl ?_
  try simp only [Tk.put]
  refine Tk.x 4 rfl ?_
  try simp only [Tk.put]
  refine Tk.x 5 rfl ?_
  try simp only [Tk.put]
  refine Tk.x 6 rfl ?_
  try simp only [Tk.put]
  refine Tk.x 7 rfl ?_
  try simp only [Tk.put]
  refine Tk.x 8 rfl ?_
  try simp only [Tk.put]
  refine Tk.s 1 rfl (fun K hK => ?_)
  go_simp
  go_at_call 18
  refine (CB.out _ _ _ RL.out).mono ?_
  rintro e we ⟨rfl, m5, hm5⟩
  have hb : Below Wd.heap.size Wd we := by rw [hm5]; exact Kit.below_drewN (Below.refl _ _) m5
  have hS2 : we.cell? ⟨w.heap.size + 1, 2, none⟩ = some (.int .i32 D) := (hb.cell (p := ⟨w.heap.size + 1, 2, none⟩) (by simp; omega)).trans hHeld
  replace HBW := Lib.hid (HBW.out.trans (hb.mono HBW.out.size))
  replace HO := Lib.hid (Kit.own_below HO.out hb)
  replace FR := Lib.hid (FR.out.below (show w.heap.size + 2 < Wd.heap.size by omega) hb)
  clear hHeld hb hm5 RL
  dsimp only
  refine hK.out _ _ hS2 (fun hHeld => ?_)
  clear hK K hS2
  try simp only [Tk.put]
  refine Tk.x 9 rfl ?_
  try simp only [Tk.put]
  obtain ⟨⟨z0, z1, z2, z3⟩, z4, z5, z6, z7⟩ := FR.out
  refine Tk.s 10 rfl (fun K hK => ?_)
  go_simp
  refine hK.out _ _ ?_ (fun hHeld => ?_)
  · exact by go_cell
  clear hK K
  try simp only [Tk.put]
  refine Tk.x 11 rfl ?_
  try simp only [Tk.put]
  refine wpAnyH_done (by kernel_rfl) ?_ _
  clear hHeld
  go_wp2_with fail
  refine bodyPost_ret (Kit.results_ct rfl _ _ (w.heap.size + 2) 0 [.int .i64 R, .int .i64 M, .slice A3 nB c3, .bool b] _ rfl (range_4 (by go_cell) (by go_cell) (by go_cell) (by go_cell)) Try.underlying37 rfl (by kernel_rfl)) rfl ?_
  refine ⟨_, rfl, Kit.own_base (own_set4 HO.out (by omega)) (by omega), ?_⟩
  exact (((HBW.out.setCell (p := ⟨w.heap.size + 2, 0, none⟩) (by simp) _).setCell (p := ⟨w.heap.size + 2, 1, none⟩) (by simp) _).setCell (p := ⟨w.heap.size + 2, 2, none⟩) (by simp) _).setCell (p := ⟨w.heap.size + 2, 3, none⟩) (by simp) _
end Go.Proofs.Ytmnhcmkcdchmkaa.CVerd
