/- VerdictNeed: with a lesser need what was enough is enough; where all numbers grow by as much, nothing but they changes: for whatever tensor, exit, classes, need and growth; the call returns true and leaves its arguments as they were. No condition. -/
import Derived.Test.YtmnhcmkcdchmkaaTk
import Derived.Test.YtmnhcmkcdchmkaaVerdNeedNum
import Derived.Test.YtmnhcmkcdchmkaaOpenTensor
import Derived.Test.YtmnhcmkcdchmkaaOpenFlat
import Derived.Test.YtmnhcmkcdchmkaaRows
import Derived.ProofKit
import Derived.OpenShut
import Derived.Outline
namespace Go.Proofs.Ytmnhcmkcdchmkaa.lawVerdictNeed
open Go Go.ChangeShapes Go.WideShapes Go.ChangeAt Go.RowKit Go.Deep
open Plain CSat CShape CTensor CConv CDense CVerd
set_option linter.unusedVariables false
set_option maxRecDepth 100000
set_option maxHeartbeats 4000000 in
theorem walk_no {w : World} (H W C : Int) (A : Option Addr) (n c : Nat) (WA BA : Option Addr) (nW cW nB cB : Nat) (D N s y : Int) (hf : ¬ (n ≤ 1024 ∧ nW ≤ 4000 ∧ nB ≤ 100)) :
    Calls Try.prog 4 #[.agg #[.int .i64 H, .int .i64 W, .int .i64 C, .slice A n c], .agg #[.slice WA nW cW, .slice BA nB cB, .int .i32 D], .int .i64 N, .int .i32 s, .int .u16 y] w fun e w' => e = .returned (.bool true) ∧ Below w.heap.size w w' := by
  go_enter Try.func4, Try.ntmps4
  go_wp2_with fail
  go_at_call 5
  have hal : Below w.heap.size w ((w.alloc (.cells #[.int .i64 H, .int .i64 W, .int .i64 C, .slice A n c] 26)).alloc (.cells #[.slice WA nW cW, .slice BA nB cB, .int .i32 D] 29)) := ((Below.refl _ _).alloc (by first | exact Nat.le_refl _ | (simp; done) | (simp; omega)) _).alloc (by first | exact Nat.le_refl _ | (simp; done) | (simp; omega)) _
  refine (vfew_no H W C A n c WA BA nW cW nB cB D hf _).mono ?_
  rintro e w1 ⟨rfl, hb⟩
  have hh : Below w.heap.size w w1 := hal.trans (hb.mono hal.size)
  have qTB := (boxNew H W C A n c 26) w
  try simp only [World.size_alloc] at qTB
  have TB := Lib.hid ((qTB.below (B' := w.heap.size + 1) (by omega) (((Below.refl _ _).alloc (by first | exact Nat.le_refl _ | (simp; done) | (simp; omega)) _).mono (by simp))).below (by first | (simp; done) | (simp; omega)) hb)
  have yTB : w.heap.size < w1.heap.size := by have := hb.size; simp at this; omega
  clear qTB
  have qTH := (headNew WA BA nW cW nB cB D 29) (w.alloc (.cells #[.int .i64 H, .int .i64 W, .int .i64 C, .slice A n c] 26))
  try simp only [World.size_alloc] at qTH
  have TH := Lib.hid (qTH.below (by first | (simp; done) | (simp; omega)) hb)
  have yTH : w.heap.size + 1 < w1.heap.size := by have := hb.size; simp at this; omega
  clear qTH
  have HBW : Hid (Below w.heap.size w w1) := Lib.hid hh
  obtain ⟨tbp0, tbp1, tbp2, tbp3⟩ := TB.out
  obtain ⟨thp0, thp1, thp2⟩ := TH.out
  clear hb hh hal
  go_wp2_with fail
  go_at_call 6
  have hal : Below w1.heap.size w1 w1 := Below.refl _ _
  refine (known30 _).mono ?_
  rintro e w2 ⟨rfl, hb⟩
  have hh : Below w1.heap.size w1 w2 := hal.trans (hb.mono hal.size)
  replace TB := Lib.hid (TB.out.below yTB hh)
  replace yTB := Nat.lt_of_lt_of_le yTB hh.size
  replace TH := Lib.hid (TH.out.below yTH hh)
  replace yTH := Nat.lt_of_lt_of_le yTH hh.size
  replace HBW := Lib.hid (HBW.out.trans (hh.mono HBW.out.size))
  clear tbp0 tbp1 tbp2 tbp3 thp0 thp1 thp2
  obtain ⟨tbp0, tbp1, tbp2, tbp3⟩ := TB.out
  obtain ⟨thp0, thp1, thp2⟩ := TH.out
  clear hb hh hal
  go_wp2_with fail
  go_ret
  exact ⟨rfl, HBW.out⟩
set_option maxHeartbeats 4000000 in
theorem walk_bad {w : World} (H W C : Int) (A : Option Addr) (n c : Nat) (WA BA : Option Addr) (nW cW nB cB : Nat) (D N s y : Int) (hf : n ≤ 1024 ∧ nW ≤ 4000 ∧ nB ≤ 100) (ht : tensB H W C n = false) :
    Calls Try.prog 4 #[.agg #[.int .i64 H, .int .i64 W, .int .i64 C, .slice A n c], .agg #[.slice WA nW cW, .slice BA nB cB, .int .i32 D], .int .i64 N, .int .i32 s, .int .u16 y] w fun e w' => e = .returned (.bool true) ∧ Below w.heap.size w w' := by
  have HF := Lib.hid hf
  have HT := Lib.hid ht
  clear hf ht
  go_enter Try.func4, Try.ntmps4
  go_wp2_with fail
  go_at_call 5
  have hal : Below w.heap.size w ((w.alloc (.cells #[.int .i64 H, .int .i64 W, .int .i64 C, .slice A n c] 26)).alloc (.cells #[.slice WA nW cW, .slice BA nB cB, .int .i32 D] 29)) := ((Below.refl _ _).alloc (by first | exact Nat.le_refl _ | (simp; done) | (simp; omega)) _).alloc (by first | exact Nat.le_refl _ | (simp; done) | (simp; omega)) _
  refine (vfew_yes H W C A n c WA BA nW cW nB cB D HF.out _).mono ?_
  rintro e w1 ⟨rfl, hb⟩
  have hh : Below w.heap.size w w1 := hal.trans (hb.mono hal.size)
  have qTB := (boxNew H W C A n c 26) w
  try simp only [World.size_alloc] at qTB
  have TB := Lib.hid ((qTB.below (B' := w.heap.size + 1) (by omega) (((Below.refl _ _).alloc (by first | exact Nat.le_refl _ | (simp; done) | (simp; omega)) _).mono (by simp))).below (by first | (simp; done) | (simp; omega)) hb)
  have yTB : w.heap.size < w1.heap.size := by have := hb.size; simp at this; omega
  clear qTB
  have qTH := (headNew WA BA nW cW nB cB D 29) (w.alloc (.cells #[.int .i64 H, .int .i64 W, .int .i64 C, .slice A n c] 26))
  try simp only [World.size_alloc] at qTH
  have TH := Lib.hid (qTH.below (by first | (simp; done) | (simp; omega)) hb)
  have yTH : w.heap.size + 1 < w1.heap.size := by have := hb.size; simp at this; omega
  clear qTH
  have HBW : Hid (Below w.heap.size w w1) := Lib.hid hh
  obtain ⟨tbp0, tbp1, tbp2, tbp3⟩ := TB.out
  obtain ⟨thp0, thp1, thp2⟩ := TH.out
  clear hb hh hal
  go_wp2_with fail
  go_at_call 7
  have hal : Below w1.heap.size w1 w1 := Below.refl _ _
  refine (look_bad H W C A n c WA BA nW cW nB cB D N HT.out _).mono ?_
  rintro e w2 ⟨rfl, hb⟩
  have hh : Below w1.heap.size w1 w2 := hal.trans (hb.mono hal.size)
  replace TB := Lib.hid (TB.out.below yTB hh)
  replace yTB := Nat.lt_of_lt_of_le yTB hh.size
  replace TH := Lib.hid (TH.out.below yTH hh)
  replace yTH := Nat.lt_of_lt_of_le yTH hh.size
  replace HBW := Lib.hid (HBW.out.trans (hh.mono HBW.out.size))
  clear tbp0 tbp1 tbp2 tbp3 thp0 thp1 thp2
  obtain ⟨tbp0, tbp1, tbp2, tbp3⟩ := TB.out
  obtain ⟨thp0, thp1, thp2⟩ := TH.out
  clear hb hh hal
  go_wp2_with fail
  go_at_call 6
  have hal : Below w2.heap.size w2 (w2.alloc (.cells #[.int .i64 0, .int .i64 0, .slice none 0 0, .bool false] 33)) := (Below.refl _ _).alloc (by first | exact Nat.le_refl _ | (simp; done) | (simp; omega)) _
  refine (known30 _).mono ?_
  rintro e w3 ⟨rfl, hb⟩
  have hh : Below w2.heap.size w2 w3 := hal.trans (hb.mono hal.size)
  have qTV1 := (verdNew 0 0 (.slice none 0 0) false 33) w2
  try simp only [World.size_alloc] at qTV1
  have TV1 := Lib.hid (qTV1.below (by first | (simp; done) | (simp; omega)) hb)
  have yTV1 : w2.heap.size < w3.heap.size := by have := hb.size; simp at this; omega
  clear qTV1
  replace TB := Lib.hid (TB.out.below yTB hh)
  replace yTB := Nat.lt_of_lt_of_le yTB hh.size
  replace TH := Lib.hid (TH.out.below yTH hh)
  replace yTH := Nat.lt_of_lt_of_le yTH hh.size
  replace HBW := Lib.hid (HBW.out.trans (hh.mono HBW.out.size))
  clear tbp0 tbp1 tbp2 tbp3 thp0 thp1 thp2
  obtain ⟨tbp0, tbp1, tbp2, tbp3⟩ := TB.out
  obtain ⟨thp0, thp1, thp2⟩ := TH.out
  clear hb hh hal
  go_wp2_with fail
  go_ret
  exact ⟨rfl, HBW.out⟩
set_option maxHeartbeats 4000000 in
theorem walk_err {w : World} (H W C : Int) (A : Option Addr) (n c : Nat) (WA BA : Option Addr) (nW cW nB cB : Nat) (D N s y : Int) (hf : n ≤ 1024 ∧ nW ≤ 4000 ∧ nB ≤ 100) (ht : tensB H W C n = true) (er : Int) (he : verdE H W C nW nB D N = er) (hne : er ≠ 0) :
    Calls Try.prog 4 #[.agg #[.int .i64 H, .int .i64 W, .int .i64 C, .slice A n c], .agg #[.slice WA nW cW, .slice BA nB cB, .int .i32 D], .int .i64 N, .int .i32 s, .int .u16 y] w fun e w' => e = .returned (.bool true) ∧ Below w.heap.size w w' := by
  have HF := Lib.hid hf
  have HT := Lib.hid ht
  have q1 : (er != 0) = true := by simpa using hne
  have HE := Lib.hid he
  clear hf ht he
  go_enter Try.func4, Try.ntmps4
  go_wp2_with fail
  go_at_call 5
  have hal : Below w.heap.size w ((w.alloc (.cells #[.int .i64 H, .int .i64 W, .int .i64 C, .slice A n c] 26)).alloc (.cells #[.slice WA nW cW, .slice BA nB cB, .int .i32 D] 29)) := ((Below.refl _ _).alloc (by first | exact Nat.le_refl _ | (simp; done) | (simp; omega)) _).alloc (by first | exact Nat.le_refl _ | (simp; done) | (simp; omega)) _
  refine (vfew_yes H W C A n c WA BA nW cW nB cB D HF.out _).mono ?_
  rintro e w1 ⟨rfl, hb⟩
  have hh : Below w.heap.size w w1 := hal.trans (hb.mono hal.size)
  have qTB := (boxNew H W C A n c 26) w
  try simp only [World.size_alloc] at qTB
  have TB := Lib.hid ((qTB.below (B' := w.heap.size + 1) (by omega) (((Below.refl _ _).alloc (by first | exact Nat.le_refl _ | (simp; done) | (simp; omega)) _).mono (by simp))).below (by first | (simp; done) | (simp; omega)) hb)
  have yTB : w.heap.size < w1.heap.size := by have := hb.size; simp at this; omega
  clear qTB
  have qTH := (headNew WA BA nW cW nB cB D 29) (w.alloc (.cells #[.int .i64 H, .int .i64 W, .int .i64 C, .slice A n c] 26))
  try simp only [World.size_alloc] at qTH
  have TH := Lib.hid (qTH.below (by first | (simp; done) | (simp; omega)) hb)
  have yTH : w.heap.size + 1 < w1.heap.size := by have := hb.size; simp at this; omega
  clear qTH
  have HBW : Hid (Below w.heap.size w w1) := Lib.hid hh
  obtain ⟨tbp0, tbp1, tbp2, tbp3⟩ := TB.out
  obtain ⟨thp0, thp1, thp2⟩ := TH.out
  clear hb hh hal
  go_wp2_with fail
  go_at_call 7
  have hal : Below w1.heap.size w1 w1 := Below.refl _ _
  refine (look_err H W C A n c WA BA nW cW nB cB D N HT.out er HE.out hne _).mono ?_
  rintro e w2 ⟨rfl, hb⟩
  have hh : Below w1.heap.size w1 w2 := hal.trans (hb.mono hal.size)
  replace TB := Lib.hid (TB.out.below yTB hh)
  replace yTB := Nat.lt_of_lt_of_le yTB hh.size
  replace TH := Lib.hid (TH.out.below yTH hh)
  replace yTH := Nat.lt_of_lt_of_le yTH hh.size
  replace HBW := Lib.hid (HBW.out.trans (hh.mono HBW.out.size))
  clear tbp0 tbp1 tbp2 tbp3 thp0 thp1 thp2
  obtain ⟨tbp0, tbp1, tbp2, tbp3⟩ := TB.out
  obtain ⟨thp0, thp1, thp2⟩ := TH.out
  clear hb hh hal
  go_wp2_with fail
  go_at_call 6
  have hal : Below w2.heap.size w2 (w2.alloc (.cells #[.int .i64 0, .int .i64 0, .slice none 0 0, .bool false] 33)) := (Below.refl _ _).alloc (by first | exact Nat.le_refl _ | (simp; done) | (simp; omega)) _
  refine (known30 _).mono ?_
  rintro e w3 ⟨rfl, hb⟩
  have hh : Below w2.heap.size w2 w3 := hal.trans (hb.mono hal.size)
  have qTV1 := (verdNew 0 0 (.slice none 0 0) false 33) w2
  try simp only [World.size_alloc] at qTV1
  have TV1 := Lib.hid (qTV1.below (by first | (simp; done) | (simp; omega)) hb)
  have yTV1 : w2.heap.size < w3.heap.size := by have := hb.size; simp at this; omega
  clear qTV1
  replace TB := Lib.hid (TB.out.below yTB hh)
  replace yTB := Nat.lt_of_lt_of_le yTB hh.size
  replace TH := Lib.hid (TH.out.below yTH hh)
  replace yTH := Nat.lt_of_lt_of_le yTH hh.size
  replace HBW := Lib.hid (HBW.out.trans (hh.mono HBW.out.size))
  clear tbp0 tbp1 tbp2 tbp3 thp0 thp1 thp2
  obtain ⟨tbp0, tbp1, tbp2, tbp3⟩ := TB.out
  obtain ⟨thp0, thp1, thp2⟩ := TH.out
  clear hb hh hal
  go_wp2_with fail
  go_ret
  exact ⟨rfl, HBW.out⟩
set_option maxHeartbeats 8000000 in
theorem walk_yes {w : World} (H W C : Int) (A : Option Addr) (zs : List Int) (n c : Nat) (hn : zs.length = n) (ht : tensB H W C n = true) (hz : I8b zs) (WA BA : Option Addr) (nW cW nB cB : Nat) (D N s y : Int) (ws : List Int) (hws : ws.length = nW) (hwc : nW ≤ cW) (hwb : I8b ws) (bs : List Int) (hbs : bs.length = nB) (hb32 : ∀ q, -2147483648 ≤ bs.getD q 0 ∧ bs.getD q 0 ≤ 2147483647)
    (hD : D ≤ 2147483647) (he : verdE H W C nW nB D N = 0) (y1 : 0 ≤ y) (y2 : y ≤ 65535) (hf : n ≤ 1024 ∧ nW ≤ 4000 ∧ nB ≤ 100) (hr : Kit.Rd w w.heap.size A (I8s zs)) (hrw : Kit.Rd w w.heap.size WA (I8s ws)) (hrb : Kit.Rd w w.heap.size BA (I32v bs)) :
    Calls Try.prog 4 #[.agg #[.int .i64 H, .int .i64 W, .int .i64 C, .slice A n c], .agg #[.slice WA nW cW, .slice BA nB cB, .int .i32 D], .int .i64 N, .int .i32 s, .int .u16 y] w fun e w' => e = .returned (.bool true) ∧ Below w.heap.size w w' := by
  obtain ⟨m1, m2, m3, m4, m5, m6⟩ := verd_num he ht
  have hD0 : 0 ≤ D := (verdE_ok he).2.2.2
  obtain ⟨mx, hmx⟩ : ∃ mx, (if s < 0 then 0 else s) = mx := ⟨_, rfl⟩
  obtain ⟨L, hL⟩ : ∃ L, (if D < mx then D else mx) = L := ⟨_, rfl⟩
  have hmx0 : 0 ≤ mx := by rw [← hmx]; split <;> omega
  have hL0 : 0 ≤ L ∧ L ≤ D := by rw [← hL]; split <;> omega
  have he2 : verdE H W C nW nB L N = 0 := by
    obtain ⟨e1, e2, e3, e4⟩ := verdE_ok he
    unfold verdE
    rw [if_neg (by simp [e1]), if_neg e2, if_pos e3, if_neg (by omega)]
  obtain ⟨F, hF⟩ : ∃ F : Nat → Int, ∀ o, lineF zs ws bs n 0 o = F o := ⟨_, fun _ => rfl⟩
  obtain ⟨R, hR⟩ : ∃ R, CRank.grF F (-1) nB = R := ⟨_, rfl⟩
  obtain ⟨M, hM⟩ : ∃ M, CRank.margF F nB = M := ⟨_, rfl⟩
  obtain ⟨b, hb⟩ : ∃ b, decide (D ≤ M) = b := ⟨_, rfl⟩
  have hlook := fun (w : World) (r1 : Kit.Rd w w.heap.size A (I8s zs)) (r2 : Kit.Rd w w.heap.size WA (I8s ws)) (r3 : Kit.Rd w w.heap.size BA (I32v bs)) => look_yes H W C A zs n c hn ht hz WA BA nW cW nB cB D N ws hws hwc hwb bs hbs hb32 he hD F hF R M hR hM b hb w r1 r2 r3
  have hlook2 := fun (hbig : ∀ i, i < nB → -1000000000 ≤ bs.getD i 0 ∧ bs.getD i 0 ≤ 1000000000) (VA : Option Addr) (cV : Nat) (w : World) (r1 : Kit.Rd w w.heap.size A (I8s zs)) (r2 : Kit.Rd w w.heap.size WA (I8s ws)) (r3 : Kit.Rd w w.heap.size VA (I32v (rowL (gsF bs y) nB))) =>
    look_yes H W C A zs n c hn ht hz WA VA nW cW nB cV L N ws hws hwc hwb (rowL (gsF bs y) nB) (rowL_len _ _) (row_32 (fun i => wrap32_bd _)) he2 (by omega) (lineF zs ws (rowL (gsF bs y) nB) n 0) (fun _ => rfl) R M
      ((shift_marg (line_shift m2 hz hwb y1 y2 hbig) m3).1.trans (by rw [← hR]; exact congrArg (fun f => CRank.grF f (-1) nB) (funext hF)))
      ((shift_marg (line_shift m2 hz hwb y1 y2 hbig) m3).2.trans (by rw [← hM]; exact congrArg (fun f => CRank.margF f nB) (funext hF))) (decide (L ≤ M)) rfl w r1 r2 r3
  have henough : b = true → decide (L ≤ M) = true := fun h => by rw [← hb] at h; simp at h ⊢; omega
  have HL := Lib.hid hlook
  have HL2 := Lib.hid hlook2
  have HEN := Lib.hid henough
  have HBS := Lib.hid hbs
  have HB32 := Lib.hid hb32
  have HF := Lib.hid hf
  have HR := Lib.hid hr
  have HRW := Lib.hid hrw
  have HRB := Lib.hid hrb
  have HR0 := Lib.hid hr
  have HRW0 := Lib.hid hrw
  have HRB0 := Lib.hid hrb
  have HM4 := Lib.hid m4
  have HY := Lib.hid (And.intro y1 y2)
  clear hlook hlook2 henough hbs hb32 hf hr hrw hrb hn ht hz hws hwc hwb he he2 hF hR hM hb m1 m2 m3 m4 m5 m6 hL0 hmx0 hD0 hD y1 y2
  obtain ⟨i0, hi0, hi1, hi2, hi3⟩ := info_parts32 info_i32
  have HI := Lib.hid (And.intro hi0 (And.intro hi1 (And.intro hi2 hi3)))
  clear hi0 hi1 hi2 hi3
  go_enter Try.func4, Try.ntmps4
  go_wp2_with fail
  go_at_call 5
  have hal : Below w.heap.size w ((w.alloc (.cells #[.int .i64 H, .int .i64 W, .int .i64 C, .slice A n c] 26)).alloc (.cells #[.slice WA nW cW, .slice BA nB cB, .int .i32 D] 29)) := ((Below.refl _ _).alloc (by first | exact Nat.le_refl _ | (simp; done) | (simp; omega)) _).alloc (by first | exact Nat.le_refl _ | (simp; done) | (simp; omega)) _
  refine (vfew_yes H W C A n c WA BA nW cW nB cB D HF.out _).mono ?_
  rintro e w1 ⟨rfl, hb⟩
  have hh : Below w.heap.size w w1 := hal.trans (hb.mono hal.size)
  have qTB := (boxNew H W C A n c 26) w
  try simp only [World.size_alloc] at qTB
  have TB := Lib.hid ((qTB.below (B' := w.heap.size + 1) (by omega) (((Below.refl _ _).alloc (by first | exact Nat.le_refl _ | (simp; done) | (simp; omega)) _).mono (by simp))).below (by first | (simp; done) | (simp; omega)) hb)
  have yTB : w.heap.size < w1.heap.size := by have := hb.size; simp at this; omega
  clear qTB
  have qTH := (headNew WA BA nW cW nB cB D 29) (w.alloc (.cells #[.int .i64 H, .int .i64 W, .int .i64 C, .slice A n c] 26))
  try simp only [World.size_alloc] at qTH
  have TH := Lib.hid (qTH.below (by first | (simp; done) | (simp; omega)) hb)
  have yTH : w.heap.size + 1 < w1.heap.size := by have := hb.size; simp at this; omega
  clear qTH
  replace HR := Lib.hid ((HR.out.below hh).more hh.size)
  replace HRW := Lib.hid ((HRW.out.below hh).more hh.size)
  replace HRB := Lib.hid ((HRB.out.below hh).more hh.size)
  have HBW : Hid (Below w.heap.size w w1) := Lib.hid hh
  obtain ⟨tbp0, tbp1, tbp2, tbp3⟩ := TB.out
  obtain ⟨thp0, thp1, thp2⟩ := TH.out
  clear hb hh hal
  go_wp2_with fail
  go_at_call 7
  have hal : Below w1.heap.size w1 w1 := Below.refl _ _
  refine (HL.out _ ((HR.out.below hal).more hal.size) ((HRW.out.below hal).more hal.size) ((HRB.out.below hal).more hal.size)).mono ?_
  rintro e w2 ⟨v2, rfl, ho2, hb⟩
  have hh : Below w1.heap.size w1 w2 := hal.trans (hb.mono hal.size)
  replace TB := Lib.hid (TB.out.below yTB hh)
  replace yTB := Nat.lt_of_lt_of_le yTB hh.size
  replace TH := Lib.hid (TH.out.below yTH hh)
  replace yTH := Nat.lt_of_lt_of_le yTH hh.size
  replace HR := Lib.hid ((HR.out.below hh).more hh.size)
  replace HRW := Lib.hid ((HRW.out.below hh).more hh.size)
  replace HRB := Lib.hid ((HRB.out.below hh).more hh.size)
  replace HBW := Lib.hid (HBW.out.trans (hh.mono HBW.out.size))
  clear tbp0 tbp1 tbp2 tbp3 thp0 thp1 thp2
  obtain ⟨A2, c2, rfl, -, -, -⟩ := Kit.own_rd ho2
  clear ho2
  obtain ⟨tbp0, tbp1, tbp2, tbp3⟩ := TB.out
  obtain ⟨thp0, thp1, thp2⟩ := TH.out
  clear hb hh hal
  go_upto_region 9 with fail
  obtain ⟨p1, p2⟩ := wNeed_below w2 #[.int .i64 R, .int .i64 M, .slice A2 nB c2, .bool b] 33 29 WA nW cW L
  obtain ⟨p3, p4, p5, p6, p7⟩ := wNeed_at w2 #[.int .i64 R, .int .i64 M, .slice A2 nB c2, .bool b] 33 29 WA nW cW L
  have hNA : NeedAt w.heap.size (w.heap.size + 1) w2.heap.size (w2.heap.size + 1) H W C A n c WA BA nW cW nB cB D L R M (.slice A2 nB c2) b (.slice none 0 0) (wNeed w2 #[.int .i64 R, .int .i64 M, .slice A2 nB c2, .bool b] 33 29 WA nW cW L) :=
    ⟨TB.out.below yTB p1, TH.out.below yTH p1, (verdNew R M (.slice A2 nB c2) b 33 w2).below (Nat.lt_succ_self _) p2, ⟨p3, p4, p5, p6⟩, by omega, by omega, by omega, p7⟩
  have HN := Lib.hid hNA
  replace HBW := Lib.hid (HBW.out.trans (p1.mono HBW.out.size))
  rw [show (w2.alloc (.cells #[.int .i64 R, .int .i64 M, .slice A2 nB c2, .bool b] 33)).alloc (.cells #[.slice WA nW cW, .slice none 0 0, .int .i32 L] 29) = wNeed w2 #[.int .i64 R, .int .i64 M, .slice A2 nB c2, .bool b] 33 29 WA nW cW L from rfl]
  clear p1 p2 p3 p4 p5 p6 p7 hNA TB TH yTB yTH tbp0 tbp1 tbp2 tbp3 thp0 thp1 thp2 HL hmx hL HR HRW HRB HF
  generalize wNeed w2 #[.int .i64 R, .int .i64 M, .slice A2 nB c2, .bool b] 33 29 WA nW cW L = W3 at HN HBW ⊢
  generalize w2.heap.size = g2 at HN ⊢
  go_wp2_with fail
  go_loopw [14] (fun x wr => ∃ (k : Nat) (v : Value), k ≤ nB ∧ x = .int .i64 k ∧ Hid (NeedAt w.heap.size (w.heap.size + 1) g2 (g2 + 1) H W C A n c WA BA nW cW nB cB D L R M (.slice A2 nB c2) b v wr) ∧ Hid (wr.ownsRow (g2 + 2) 21 1 v k (I32v (rowL (gsF bs y) k))) ∧ Hid (Below w.heap.size w wr) ∧ Hid (∀ i, i < k → -1000000000 ≤ bs.getD i 0 ∧ bs.getD i 0 ≤ 1000000000)) (fun x _ => nB - (intOf x).toNat)
  case atStart => exact ⟨0, _, Nat.zero_le _, rfl, HN, Lib.hid (by simpa [I32v, rowL] using World.ownsRow_nil _ _ _ _), HBW, Lib.hid (fun i hi => by omega)⟩
  case round =>
    obtain ⟨k, v, hk, rfl, HN1, HO1, HB1, HG1⟩ := hrel
    clear HN HBW
    obtain ⟨Av, cv, rfl, -, -, -⟩ := Kit.own_rd HO1.out
    obtain ⟨-, ⟨s5, s6, s7⟩, -, ⟨t0, t1, t2, t3⟩, -, -, -, hz⟩ := HN1.out
    by_cases hlt : k < nB
    · obtain ⟨b1, o1, rfl, hb1, hcx0⟩ := ints_getD HRB0.out (j := 0) (by have := HBS.out; omega)
      have hcx := (HB1.out.cell (p := ⟨b1, o1 + k, none⟩) hb1).trans (hcx0 k (by have := HBS.out; omega))
      have hk0 : (0 : Int) ≤ (k : Int) := by omega
      have hkn : (k : Int) < (nB : Int) := by omega
      obtain ⟨x1, x2⟩ := HB32.out k
      obtain ⟨x, hx⟩ : ∃ x, bs.getD k 0 = x := ⟨_, rfl⟩
      rw [hx] at hcx x1 x2
      have HX := Lib.hid hx
      clear hx hcx0
      by_cases h9 : 1000000000 < x
      · have h9d : decide (1000000000 < x) = true := by simp [h9]
        go_wp2_with (go_at_call 6; (with_reducible refine (known30 _).mono ?_); rintro e w9 ⟨rfl, hb9⟩; (replace HB1 := Lib.hid (HB1.out.trans (hb9.mono HB1.out.size))); clear hb9)
        go_ret
        exact ⟨rfl, HB1.out⟩
      · have h9d : decide (1000000000 < x) = false := by simp [h9]
        by_cases h8 : x < -1000000000
        · have h8d : decide (x < -1000000000) = true := by simp [h8]
          go_wp2_with (go_at_call 6; (with_reducible refine (known30 _).mono ?_); rintro e w9 ⟨rfl, hb9⟩; (replace HB1 := Lib.hid (HB1.out.trans (hb9.mono HB1.out.size))); clear hb9)
          go_ret
          exact ⟨rfl, HB1.out⟩
        · have h8d : decide (x < -1000000000) = false := by simp [h8]
          obtain ⟨x', hx'⟩ : ∃ x', gsF bs y k = x' := ⟨_, rfl⟩
          have hxy : IntKind.i32.wrap (x + y) = x' := by rw [← hx']; unfold gsF; rw [HX.out]
          have hyw : IntKind.i32.wrap y = y := wrap32_in (by have := HY.out; omega) (by have := HY.out; omega)
          have HXX := Lib.hid hx'
          have HG2 : Hid (∀ i, i < k + 1 → -1000000000 ≤ bs.getD i 0 ∧ bs.getD i 0 ≤ 1000000000) := Lib.hid (fun i hi => by
            rcases (show i < k ∨ i = k by omega) with h | rfl
            · exact HG1.out i h
            · rw [HX.out]; omega)
          clear HG1 hx'
          go_upto_region 14 with fail
          refine wp_region_held_drew (S := fun w' => HeadAt (w.heap.size + 1) WA (some ⟨b1, o1, none⟩) nW cW nB cB D w' ∧ w'.cell? ⟨b1, o1 + k, none⟩ = some (.int .i32 x)) (by kernel_rfl) ⟨⟨s5, s6, s7⟩, hcx⟩ (fun hHeld => ?_)
          have hg01 : w.heap.size + 1 < g2 + 1 := HN1.out.2.2.2.2.2.1
          replace HN1 := Lib.hid (HN1.out.below (Below.refl _ _).drew)
          replace HO1 := Lib.hid (Kit.own_below HO1.out (Below.refl _ _).drew)
          replace HB1 := Lib.hid HB1.out.drew
          have t1 : wr.drew.cell? ⟨g2 + 1, 1, none⟩ = some (.slice Av k cv) := t1
          have t3 : wr.drew.frozen? ⟨g2 + 1, 1, none⟩ = false := t3
          have hz : g2 + 1 < wr.drew.heap.size := hz
          clear s5 s6 s7 t0 t2 hcx
          generalize wr.drew = Wa at HN1 HO1 HB1 t1 t3 hz hHeld ⊢
          refine Tk.x 0 rfl ?_
          try simp only [Tk.put]
          refine Tk.x 2 rfl ?_
          try simp only [Tk.put]
          refine Tk.y 3 (v := ?_) rfl ?_ ?_
          rotate_left
          · intro wS hSw
            obtain ⟨⟨u1, u2, u3⟩, u4⟩ := hSw
            first | (go_simp; done) | (go_simp; with_reducible rfl)
          try simp only [Tk.put]
          refine Tk.x 4 rfl ?_
          try simp only [Tk.put]
          refine Tk.x 5 rfl ?_
          try simp only [Tk.put]
          refine Tk.y 6 (v := ?_) rfl ?_ ?_
          rotate_left
          · intro wS hSw
            obtain ⟨⟨u1, u2, u3⟩, u4⟩ := hSw
            first | (go_simp; done) | (go_simp; with_reducible rfl)
          try simp only [Tk.put]
          refine Tk.x 7 rfl ?_
          try simp only [Tk.put]
          refine Tk.x 8 rfl ?_
          try simp only [Tk.put]
          refine Tk.x 9 rfl ?_
          try simp only [Tk.put]
          refine wpAnyH_ready (rs := [1, 10]) (by kernel_rfl) (by simp) ?_
          refine Tk.c rfl (fun K hK => ?_) ?_
          · go_simp
            refine hK.out _ _ ?_ (fun hHeld => ?_)
            · exact hHeld
            clear hK K
            try simp only [Tk.put]
            refine Tk.s 10 rfl (fun K hK => ?_)
            go_simp
            refine hK.out _ _ ?_ (fun hHeld => ?_)
            · exact ⟨hHeld.1.below (B' := Wa.heap.size) (by omega) ((Below.refl _ _).alloc (Nat.le_refl _) _), (((Below.refl _ _).alloc (Nat.le_refl _) _).cell (p := ⟨b1, o1 + k, none⟩) (by simp; omega)).trans hHeld.2⟩
            clear hK K
            try simp only [Tk.put]
            replace HB1 := Lib.hid (HB1.out.alloc HB1.out.size (.cells #[.int .i32 x'] 21))
            replace HN1 := Lib.hid (HN1.out.below ((Below.refl _ _).alloc hz (.cells #[.int .i32 x'] 21)))
            replace HO1 := Lib.hid (HO1.out.alloc (.cells #[.int .i32 x'] 21))
            have HXR := Lib.hid (Kit.Rd.new Wa [.int .i32 x'] 21 (Nat.lt_succ_self _))
            clear t1 t3
            have hgx : g2 + 1 < Wa.heap.size := hz
            replace hz : g2 + 1 < (Wa.alloc (.cells #[.int .i32 x'] 21)).heap.size := by simp; omega
            obtain ⟨-, -, -, ⟨-, t1, -, t3⟩, -⟩ := HN1.out
            generalize Wa.alloc (.cells #[.int .i32 x'] 21) = Wb at HB1 HN1 HO1 HXR hz t1 t3 hHeld ⊢
            refine Tk.s 11 rfl (fun K hK => ?_)
            refine Kit.step_append_rd _ rfl (.tmp 69) (.tmp 78) _ rfl (g2 + 2) 21 i0 (.int .i32 0) 1 4 Try.underlying27 HI.out.1 HI.out.2.1 HI.out.2.2.1 HI.out.2.2.2 rfl (by decide) _ k (I32v (rowL (gsF bs y) k)) rfl HO1.out _ _ 1 1 [.int .i32 x'] rfl rfl HXR.out (Kit.ints_one .i32 [x']) (by have := HM4.out; unfold maxLen; omega) (by have := HM4.out; omega) (by omega) ?_
            intro v5 w5 hown5 hg5 _
            obtain ⟨A5, c5, rfl, -, -, -⟩ := Kit.own_rd hown5
            have hb5 : Below (g2 + 2) Wb w5 := (Below.refl _ _).grown hg5 hz (Kit.own_block_ge HO1.out)
            have hS1 := And.intro (hHeld.1.below (B' := g2 + 2) (by have := HN1.out.2.2.2.2.2.1; omega) hb5) ((hb5.cell (p := ⟨b1, o1 + k, none⟩) (by have := HN1.out.2.2.2.2.1; simp; omega)).trans hHeld.2)
            rw [g32_succ (gsF bs y) k x' HXX.out] at hown5
            replace HB1 := Lib.hid (HB1.out.trans (hb5.mono (by have := HN1.out.2.2.2.2.1; omega)))
            replace HN1 := Lib.hid (HN1.out.below hb5)
            replace HO1 := Lib.hid hown5
            replace hz := Nat.lt_of_lt_of_le hz hb5.size
            clear hown5 hg5 hb5 hHeld t1 t3 HXR
            obtain ⟨-, -, -, ⟨-, t1, -, t3⟩, -⟩ := HN1.out
            dsimp only
            refine hK.out _ _ ?_ (fun hHeld => ?_)
            · exact hS1
            clear hK K
            try simp only [Tk.put]
            refine Tk.x 12 rfl ?_
            try simp only [Tk.put]
            have HN3 := Lib.hid (HN1.out.store (.slice A5 (k + 1) c5))
            have HO3 := Lib.hid (own_set HO1.out ⟨g2 + 1, 1, none⟩ (.slice A5 (k + 1) c5) (by simp))
            have HB3 := Lib.hid (HB1.out.setCell (p := ⟨g2 + 1, 1, none⟩) (by have := HN1.out.2.2.2.2.1; simp; omega) (.slice A5 (k + 1) c5))
            refine Tk.s 13 rfl (fun K hK => ?_)
            go_simp
            refine hK.out _ _ ?_ (fun hHeld => ?_)
            · exact ⟨HN3.out.2.1, by rw [World.cell?_setCell_other _ _ _ _ (fun e => by injection e; have := HN1.out.2.2.2.2.1; omega)]; exact hHeld.2⟩
            clear hK K
            try simp only [Tk.put]
            refine wpAnyH_done (by kernel_rfl) ?_ _
            clear t1 t3 HN1 HO1 HB1 hxy hyw hHeld
            have h16 := HM4.out
            go_wp2_with fail
            go_roundw
            case rel => have h16 := HM4.out; exact ⟨k + 1, _, by omega, by go_num, HN3, HO3, HB3, HG2⟩
            case measure => have h16 := HM4.out; simp [intOf]; omega
          refine Tk.c rfl (fun K hK => ?_) ?_
          · go_simp
            refine hK.out _ _ ?_ (fun hHeld => ?_)
            · exact ⟨hHeld.1.below (B' := Wa.heap.size) (by omega) ((Below.refl _ _).alloc (Nat.le_refl _) _), (((Below.refl _ _).alloc (Nat.le_refl _) _).cell (p := ⟨b1, o1 + k, none⟩) (by simp; omega)).trans hHeld.2⟩
            clear hK K
            try simp only [Tk.put]
            replace HB1 := Lib.hid (HB1.out.alloc HB1.out.size (.cells #[.int .i32 x'] 21))
            replace HN1 := Lib.hid (HN1.out.below ((Below.refl _ _).alloc hz (.cells #[.int .i32 x'] 21)))
            replace HO1 := Lib.hid (HO1.out.alloc (.cells #[.int .i32 x'] 21))
            have HXR := Lib.hid (Kit.Rd.new Wa [.int .i32 x'] 21 (Nat.lt_succ_self _))
            clear t1 t3
            have hgx : g2 + 1 < Wa.heap.size := hz
            replace hz : g2 + 1 < (Wa.alloc (.cells #[.int .i32 x'] 21)).heap.size := by simp; omega
            obtain ⟨-, -, -, ⟨-, t1, -, t3⟩, -⟩ := HN1.out
            generalize Wa.alloc (.cells #[.int .i32 x'] 21) = Wb at HB1 HN1 HO1 HXR hz t1 t3 hHeld ⊢
            refine Tk.s 1 rfl (fun K hK => ?_)
            go_simp
            refine hK.out _ _ ?_ (fun hHeld => ?_)
            · exact hHeld
            clear hK K
            try simp only [Tk.put]
            refine Tk.s 11 rfl (fun K hK => ?_)
            refine Kit.step_append_rd _ rfl (.tmp 69) (.tmp 78) _ rfl (g2 + 2) 21 i0 (.int .i32 0) 1 4 Try.underlying27 HI.out.1 HI.out.2.1 HI.out.2.2.1 HI.out.2.2.2 rfl (by decide) _ k (I32v (rowL (gsF bs y) k)) rfl HO1.out _ _ 1 1 [.int .i32 x'] rfl rfl HXR.out (Kit.ints_one .i32 [x']) (by have := HM4.out; unfold maxLen; omega) (by have := HM4.out; omega) (by omega) ?_
            intro v5 w5 hown5 hg5 _
            obtain ⟨A5, c5, rfl, -, -, -⟩ := Kit.own_rd hown5
            have hb5 : Below (g2 + 2) Wb w5 := (Below.refl _ _).grown hg5 hz (Kit.own_block_ge HO1.out)
            have hS1 := And.intro (hHeld.1.below (B' := g2 + 2) (by have := HN1.out.2.2.2.2.2.1; omega) hb5) ((hb5.cell (p := ⟨b1, o1 + k, none⟩) (by have := HN1.out.2.2.2.2.1; simp; omega)).trans hHeld.2)
            rw [g32_succ (gsF bs y) k x' HXX.out] at hown5
            replace HB1 := Lib.hid (HB1.out.trans (hb5.mono (by have := HN1.out.2.2.2.2.1; omega)))
            replace HN1 := Lib.hid (HN1.out.below hb5)
            replace HO1 := Lib.hid hown5
            replace hz := Nat.lt_of_lt_of_le hz hb5.size
            clear hown5 hg5 hb5 hHeld t1 t3 HXR
            obtain ⟨-, -, -, ⟨-, t1, -, t3⟩, -⟩ := HN1.out
            dsimp only
            refine hK.out _ _ ?_ (fun hHeld => ?_)
            · exact hS1
            clear hK K
            try simp only [Tk.put]
            refine Tk.x 12 rfl ?_
            try simp only [Tk.put]
            have HN3 := Lib.hid (HN1.out.store (.slice A5 (k + 1) c5))
            have HO3 := Lib.hid (own_set HO1.out ⟨g2 + 1, 1, none⟩ (.slice A5 (k + 1) c5) (by simp))
            have HB3 := Lib.hid (HB1.out.setCell (p := ⟨g2 + 1, 1, none⟩) (by have := HN1.out.2.2.2.2.1; simp; omega) (.slice A5 (k + 1) c5))
            refine Tk.s 13 rfl (fun K hK => ?_)
            go_simp
            refine hK.out _ _ ?_ (fun hHeld => ?_)
            · exact ⟨HN3.out.2.1, by rw [World.cell?_setCell_other _ _ _ _ (fun e => by injection e; have := HN1.out.2.2.2.2.1; omega)]; exact hHeld.2⟩
            clear hK K
            try simp only [Tk.put]
            refine wpAnyH_done (by kernel_rfl) ?_ _
            clear t1 t3 HN1 HO1 HB1 hxy hyw hHeld
            have h16 := HM4.out
            go_wp2_with fail
            go_roundw
            case rel => have h16 := HM4.out; exact ⟨k + 1, _, by omega, by go_num, HN3, HO3, HB3, HG2⟩
            case measure => have h16 := HM4.out; simp [intOf]; omega
          exact AllReadyH.nil
    · obtain rfl : k = nB := by omega
      have hkn : ¬ (k : Int) < (k : Int) := by omega
      obtain ⟨⟨s1, s2, s3, s4⟩, -, ⟨r1, r2, r3, r4⟩, -, hg0, hg1, hg2, -⟩ := HN1.out
      have hrv := (Kit.own_rd HO1.out)
      obtain ⟨A9, c9, hv9, -, -, hrd9⟩ := hrv
      cases hv9
      have CL := Lib.hid (HL2.out HG1.out Av cv wr ((HR0.out.below HB1.out).more HB1.out.size) ((HRW0.out.below HB1.out).more HB1.out.size) hrd9)
      clear hrd9 HL2 HR0 HRW0 HRB0 HG1
      go_wp2_with fail
      go_at_call 7
      refine CL.out.mono ?_
      rintro e w5 ⟨v5, rfl, ho5, hb5⟩
      obtain ⟨A5, c5, rfl, -, -, -⟩ := Kit.own_rd ho5
      have hal : Below wr.heap.size wr (w5.alloc (.cells #[.int .i64 R, .int .i64 M, .slice A5 k c5, .bool (decide (L ≤ M))] 33)) := hb5.alloc hb5.size _
      have hV := (HN1.out.2.2.1).below (Nat.lt_trans hg2 hz) hal
      have hW := verdNew R M (.slice A5 k c5) (decide (L ≤ M)) 33 w5
      replace HB1 := Lib.hid (HB1.out.trans (hal.mono HB1.out.size))
      clear ho5 hb5 hal HN1 HO1 CL s1 s2 s3 s4 r1 r2 r3 r4 hz s5 s6 s7 t0 t1 t2 t3
      cases hbb : b with
      | false =>
        subst hbb
        clear HEN
        go_upto_region 16 with fail
        generalize w5.alloc (.cells #[.int .i64 R, .int .i64 M, .slice A5 k c5, .bool (decide (L ≤ M))] 33) = W6 at hV hW HB1 ⊢
        obtain ⟨r1, r2, r3, r4⟩ := hV
        obtain ⟨q1, q2, q3, q4⟩ := hW
        go_wp2_with (go_at_call 6; (with_reducible refine (known30 _).mono ?_); rintro e w9 ⟨rfl, hb9⟩; (replace HB1 := Lib.hid (HB1.out.trans (hb9.mono HB1.out.size))); clear hb9)
        go_ret
        exact ⟨rfl, HB1.out⟩
      | true =>
        have hen := HEN.out hbb
        rw [hen] at hV hW HB1 ⊢
        subst hbb
        clear HEN hen
        go_upto_region 16 with fail
        generalize w5.alloc (.cells #[.int .i64 R, .int .i64 M, .slice A5 k c5, .bool true] 33) = W6 at hV hW HB1 ⊢
        obtain ⟨r1, r2, r3, r4⟩ := hV
        obtain ⟨q1, q2, q3, q4⟩ := hW
        go_wp2_with (go_at_call 6; (with_reducible refine (known30 _).mono ?_); rintro e w9 ⟨rfl, hb9⟩; (replace HB1 := Lib.hid (HB1.out.trans (hb9.mono HB1.out.size))); clear hb9)
        go_ret
        exact ⟨rfl, HB1.out⟩
theorem walk {w : World} (H : Int) (wH : (Lit.int .i64 H).wf = true) (W : Int) (wW : (Lit.int .i64 W).wf = true) (C : Int) (wC : (Lit.int .i64 C).wf = true) (A : Option Addr) (zs : List Int) (c : Nat) (hc : zs.length ≤ c) (hm : c ≤ maxLen) (hw : ∀ n ∈ zs, (Lit.int .i8 n).wf = true) (hr : Kit.Rd w w.heap.size A (zs.map (.int .i8)))
    (WA : Option Addr) (ws : List Int) (cW : Nat) (hc1 : ws.length ≤ cW) (hm1 : cW ≤ maxLen) (hw1 : ∀ n ∈ ws, (Lit.int .i8 n).wf = true) (hr1 : Kit.Rd w w.heap.size WA (ws.map (.int .i8)))
    (BA : Option Addr) (bs : List Int) (cB : Nat) (hc2 : bs.length ≤ cB) (hm2 : cB ≤ maxLen) (hw2 : ∀ n ∈ bs, (Lit.int .i32 n).wf = true) (hr2 : Kit.Rd w w.heap.size BA (bs.map (.int .i32)))
    (D : Int) (wD : (Lit.int .i32 D).wf = true) (N : Int) (wN : (Lit.int .i64 N).wf = true) (s : Int) (ws' : (Lit.int .i32 s).wf = true) (y : Int) (wy : (Lit.int .u16 y).wf = true) :
    Calls Try.prog 4 #[.agg #[.int .i64 H, .int .i64 W, .int .i64 C, .slice A zs.length c], .agg #[.slice WA ws.length cW, .slice BA bs.length cB, .int .i32 D], .int .i64 N, .int .i32 s, .int .u16 y] w fun e w' => e = .returned (.bool true) ∧ Below w.heap.size w w' := by
  have hD : -2147483648 ≤ D ∧ D ≤ 2147483647 := by simpa [Lit.wf, IntKind.min, IntKind.max, IntKind.signed, IntKind.bits] using wD
  have hy : 0 ≤ y ∧ y ≤ 65535 := by simpa [Lit.wf, IntKind.min, IntKind.max, IntKind.signed, IntKind.bits] using wy
  by_cases hf : zs.length ≤ 1024 ∧ ws.length ≤ 4000 ∧ bs.length ≤ 100
  · cases ht : tensB H W C zs.length
    · exact walk_bad H W C A _ c WA BA _ cW _ cB D N s y hf ht
    · by_cases he : verdE H W C ws.length bs.length D N = 0
      · exact walk_yes H W C A zs _ c rfl ht (I8b_of hw) WA BA _ cW _ cB D N s y ws rfl hc1 (I8b_of hw1) bs rfl (I32b_of hw2) hD.2 he hy.1 hy.2 hf hr hr1 hr2
      · exact walk_err H W C A _ c WA BA _ cW _ cB D N s y hf ht _ rfl he
  · exact walk_no H W C A _ c WA BA _ cW _ cB D N s y hf
/-! ### the frame: written by program -/
theorem own : ownKnob Try.prog.godebug = none := by kernel_rfl
theorem laid : laidOutB Try.prog = true := by kernel_rfl
theorem contract {H : Type} {enc : TypeId × Value → H} {W : World} {base : Nat} {args : Array Value} {ds gs : List (DataW H)} {before : List MemPlace}
    (hval0 : ∀ (j : Nat) t v, Try.f4.params[j]? = some t → args[j]? = some v → Value.okWide Try.prog W .any base t v)
    (hW : DataW.Whole enc Try.prog Try.f4.params.toList Rows.verdictNeedSpec.vars false W args.toList ds gs before) :
    Calls Try.prog 4 args W fun e W' => e = .returned (.bool true) ∧ Below W.heap.size W W' := by
  have hval : ∀ (j : Nat) t v, Try.f4.params[j]? = some t → args[j]? = some v → Value.okWide Try.prog W .any base t v := hval0
  obtain ⟨p, q, hA0, hV, rfl, hfz, hnd⟩ := hW
  have hA : DataW.TrodAll enc Try.prog W 0 (fun _ => true) true Try.f4.params.toList args.toList ds p := hA0
  rw [Try.params4] at hA hval
  obtain ⟨v0, vs0, d0, ds0, p0, q0, hargs, rfl, rfl, h0, r0⟩ := trodAll_cons hA
  obtain ⟨v1, vs1, d1, ds1, p1, q1, rfl, rfl, rfl, h1, r1⟩ := trodAll_cons r0
  obtain ⟨v2, vs2, d2, ds2, p2, q2, rfl, rfl, rfl, h2, r2⟩ := trodAll_cons r1
  obtain ⟨v3, vs3, d3, ds3, p3, q3, rfl, rfl, rfl, h3, r3⟩ := trodAll_cons r2
  obtain ⟨v4, vs4, d4, ds4, p4, q4, rfl, rfl, rfl, h4, r4⟩ := trodAll_cons r3
  obtain ⟨rfl, rfl, rfl⟩ := trodAll_nil r4
  obtain rfl : args = #[v0, v1, v2, v3, v4] := by cases args; simp_all
  clear hA0 hval0
  obtain ⟨x0, y0, t0, A0, z0, c0, rfl, wx0, wy0, wt0, hc0, hm0, hw0, hr0⟩ := Kit.open_tensor (s := 23) (d := 24) (e := 46) (i := 3) Try.underlying26 Try.underlying23 Try.underlying24 Try.underlying46 Try.underlying3 (by kernel_rfl) (by kernel_rfl) (by kernel_rfl) (by kernel_rfl) (by kernel_rfl) ⟨rfl, rfl, rfl, rfl⟩ ⟨rfl, rfl, rfl, rfl, rfl, rfl⟩ (hval 0 26 v0 rfl rfl) h0
  obtain ⟨cs1, rfl, hs1, hf1⟩ := Kit.open_flat Try.underlying29 (by kernel_rfl) (by kernel_rfl) (hval 1 29 v1 rfl rfl) h1
  obtain ⟨u1_0, u1_1, u1_2, rfl⟩ := Kit.size_3 hs1
  obtain ⟨A1_0, z1_0, c1_0, rfl, hc1_0, hm1_0, hw1_0, hr1_0⟩ := Kit.flat_islice Try.underlying24 Try.underlying46 (by kernel_rfl) (v := u1_0) rfl (hf1 0 _ rfl)
  obtain ⟨A1_1, z1_1, c1_1, rfl, hc1_1, hm1_1, hw1_1, hr1_1⟩ := Kit.flat_islice Try.underlying27 Try.underlying21 (by kernel_rfl) (v := u1_1) rfl (hf1 1 _ rfl)
  obtain ⟨a1_2, rfl, w1_2⟩ := Kit.flat_int Try.underlying21 (v := u1_2) rfl (hf1 2 _ rfl)
  obtain ⟨a2, rfl, rfl, rfl, w2⟩ := open_int Try.underlying3 (hval 2 3 v2 rfl rfl) h2
  obtain ⟨a3, rfl, rfl, rfl, w3⟩ := open_int Try.underlying21 (hval 3 21 v3 rfl rfl) h3
  obtain ⟨a4, rfl, rfl, rfl, w4⟩ := open_int Try.underlying44 (hval 4 44 v4 rfl rfl) h4
  exact walk (w := W) x0 wx0 y0 wy0 t0 wt0 A0 z0 c0 hc0 hm0 hw0 hr0 A1_0 z1_0 c1_0 hc1_0 hm1_0 hw1_0 hr1_0 A1_1 z1_1 c1_1 hc1_1 hm1_1 hw1_1 hr1_1 a1_2 w1_2 a2 w2 a3 w3 a4 w4
theorem fnIs {H : Type} : ∀ ds : List (DataW H), ds.length = Try.f4.params.toList.length → Rows.verdictNeedSpec.fn H ds = { results := [.lit (.bool true)], args := ds } := by
  intro ds h
  rw [Try.params4] at h
  match ds, h with
  | [d1, d2, d3, d4, d5], _ => rfl
set_option maxRecDepth 100000 in
theorem lifted (os : Os) (started : os.Started) (H : Type) (enc : TypeId × Value → H) :
    ReturnsInHanded {} Try.checked os 4 .any (Rows.verdictNeedSpec.pre6 enc Try.prog Try.f4 Rows.verdictNeedRow.domain false) (Rows.verdictNeedSpec.post enc Try.prog Try.f4 false true false false) := by
  refine returnsInHanded_of_change (C := Try.checked) own started (by kernel_rfl) Try.func4
    (ChangeSpec.witness6 (enc := enc) (C := Try.checked) false ⟨#[], #[.agg #[.int .i64 0, .int .i64 0, .int .i64 0, .slice none 0 0], .agg #[.slice none 0 0, .slice none 0 0, .int .i32 0], .int .i64 0, .int .i32 0, .int .u16 0], []⟩ 8 (by kernel_rfl) (by kernel_rfl) (by kernel_rfl) (by kernel_rfl)) ?_
  intro W base args ds gs before hval hW _ _
  refine (contract hval hW).mono fun e W' ⟨he, hg⟩ => ?_
  subst he
  exact ⟨_, rfl, Kit.law_post (tb := 4) laid (by kernel_rfl) rfl (by kernel_rfl) Try.underlying4 fnIs hW hg⟩
theorem over : Rows.verdictNeedRow.holds Try.pinned (OpenSpec.ofChange Rows.verdictNeedSpec) :=
  OpenClaim.holds_of_wide 4 Try.f4 rfl rfl rfl rfl rfl rfl rfl ⟨rfl, rfl, rfl, rfl, rfl⟩ rfl rfl rfl rfl rfl (by kernel_rfl) Try.func4 (by kernel_rfl)
    (of_decide_eq_true (by kernel_rfl)) (by unfold Func.isWrapper; first | (rw [if_pos (by decide +kernel)]; kernel_rfl) | (rw [if_neg (by decide +kernel)]; exact ⟨rfl, rfl⟩))
    (fun os started H enc _ => lifted os started H enc)
/-- the statement. -/
theorem proved : Rows.VerdictNeedSaid :=
  over
end Go.Proofs.Ytmnhcmkcdchmkaa.lawVerdictNeed
