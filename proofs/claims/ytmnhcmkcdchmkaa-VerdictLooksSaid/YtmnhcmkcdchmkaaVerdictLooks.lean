/- VerdictLooks: what any exit tells of any tensor, or what is wrong with it, is what the document says; the call returns true and leaves its arguments as they were. No condition. -/
import Derived.Test.YtmnhcmkcdchmkaaTk
import Derived.Test.YtmnhcmkcdchmkaaVerdBoth
import Derived.Test.YtmnhcmkcdchmkaaOpenTensor
import Derived.Test.YtmnhcmkcdchmkaaOpenFlat
import Derived.Test.YtmnhcmkcdchmkaaRows
import Derived.ProofKit
import Derived.OpenShut
import Derived.Outline
namespace Go.Proofs.Ytmnhcmkcdchmkaa.lawVerdictLooks
open Go Go.ChangeShapes Go.WideShapes Go.ChangeAt Go.RowKit Go.Deep
open Plain CSat CShape CTensor CConv CDense CVerd
set_option linter.unusedVariables false
set_option maxRecDepth 100000
set_option maxHeartbeats 4000000 in
theorem walk_no {w : World} (H W C : Int) (A : Option Addr) (n c : Nat) (WA BA : Option Addr) (nW cW nB cB : Nat) (D N : Int) (hf : ¬ (n ≤ 1024 ∧ nW ≤ 4000 ∧ nB ≤ 100)) :
    Calls Try.prog 3 #[.agg #[.int .i64 H, .int .i64 W, .int .i64 C, .slice A n c], .agg #[.slice WA nW cW, .slice BA nB cB, .int .i32 D], .int .i64 N] w fun e w' => e = .returned (.bool true) ∧ Below w.heap.size w w' := by
  go_enter Try.func3, Try.ntmps3
  go_wp2_with fail
  go_at_call 5
  have hal : Below w.heap.size w ((w.alloc (.cells #[.int .i64 H, .int .i64 W, .int .i64 C, .slice A n c] 26)).alloc (.cells #[.slice WA nW cW, .slice BA nB cB, .int .i32 D] 29)) := ((Below.refl _ _).alloc (by first | exact Nat.le_refl _ | (simp; done) | (simp; omega)) _).alloc (by first | exact Nat.le_refl _ | (simp; done) | (simp; omega)) _
  refine (vfew_no H W C A n c WA BA nW cW nB cB D hf _).mono ?_
  rintro e w1 ⟨rfl, hb⟩
  have hh : Below w.heap.size w w1 := hal.trans (hb.mono hal.size)
  have qTB := (boxNew H W C A n c 26) w
  try simp only [World.size_alloc] at qTB
  have TB := Lib.hid ((qTB.below (B' := w.heap.size + 1) (by omega) (((Below.refl _ _).alloc (by first | exact Nat.le_refl _ | (simp; done) | (simp; omega)) _).mono (by simp))).below (by first | (simp; done) | (simp; omega)) hb)
  have yTB : w.heap.size < w1.heap.size := by have := hb.size; simp at this; omega
  clear qTB
  have qTH := (headNew WA BA nW cW nB cB D 29) (w.alloc (.cells #[.int .i64 H, .int .i64 W, .int .i64 C, .slice A n c] 26))
  try simp only [World.size_alloc] at qTH
  have TH := Lib.hid (qTH.below (by first | (simp; done) | (simp; omega)) hb)
  have yTH : w.heap.size + 1 < w1.heap.size := by have := hb.size; simp at this; omega
  clear qTH
  have HBW : Hid (Below w.heap.size w w1) := Lib.hid hh
  obtain ⟨tbp0, tbp1, tbp2, tbp3⟩ := TB.out
  obtain ⟨thp0, thp1, thp2⟩ := TH.out
  clear hb hh hal
  go_wp2_with fail
  go_at_call 6
  have hal : Below w1.heap.size w1 w1 := Below.refl _ _
  refine (known30 _).mono ?_
  rintro e w2 ⟨rfl, hb⟩
  have hh : Below w1.heap.size w1 w2 := hal.trans (hb.mono hal.size)
  replace TB := Lib.hid (TB.out.below yTB hh)
  replace yTB := Nat.lt_of_lt_of_le yTB hh.size
  replace TH := Lib.hid (TH.out.below yTH hh)
  replace yTH := Nat.lt_of_lt_of_le yTH hh.size
  replace HBW := Lib.hid (HBW.out.trans (hh.mono HBW.out.size))
  clear tbp0 tbp1 tbp2 tbp3 thp0 thp1 thp2
  obtain ⟨tbp0, tbp1, tbp2, tbp3⟩ := TB.out
  obtain ⟨thp0, thp1, thp2⟩ := TH.out
  clear hb hh hal
  go_wp2_with fail
  go_ret
  exact ⟨rfl, HBW.out⟩
set_option maxHeartbeats 8000000 in
theorem walk_yes {w : World} (H W C : Int) (A : Option Addr) (zs : List Int) (n c : Nat) (hn : zs.length = n) (hz : I8b zs) (WA BA : Option Addr) (nW cW nB cB : Nat) (D N : Int) (ws : List Int) (hws : ws.length = nW) (hwc : nW ≤ cW) (hwb : I8b ws) (bs : List Int) (hbs : bs.length = nB) (hb32 : ∀ q, -2147483648 ≤ bs.getD q 0 ∧ bs.getD q 0 ≤ 2147483647) (hD : D ≤ 2147483647) (hf : n ≤ 1024 ∧ nW ≤ 4000 ∧ nB ≤ 100) (hr : Kit.Rd w w.heap.size A (I8s zs)) (hrw : Kit.Rd w w.heap.size WA (I8s ws)) (hrb : Kit.Rd w w.heap.size BA (I32v bs)) :
    Calls Try.prog 3 #[.agg #[.int .i64 H, .int .i64 W, .int .i64 C, .slice A n c], .agg #[.slice WA nW cW, .slice BA nB cB, .int .i32 D], .int .i64 N] w fun e w' => e = .returned (.bool true) ∧ Below w.heap.size w w' := by
  obtain ⟨R, M, b, m, xs, er, hx, hm6, hA1, hA2, -, -⟩ := look_both H W C A zs n c hn hz WA BA nW cW nB cB D N ws hws hwc hwb bs hbs hb32 hD
  obtain ⟨ce, hce⟩ : ∃ ce, verdE H W C nW nB D N = ce := ⟨_, rfl⟩
  have HK1 := Lib.hid (fun w : World => chk_to H W C WA BA nW cW nB cB D N ce hce w)
  have HK2 := Lib.hid (fun w : World => rchk_to H W C WA BA nW cW nB cB D N ce hce w)
  have HL := Lib.hid hA1
  have HM := Lib.hid hA2
  have HX := Lib.hid hx
  have HM6 := Lib.hid hm6
  have HF := Lib.hid hf
  have HR := Lib.hid hr
  have HRW := Lib.hid hrw
  have HRB := Lib.hid hrb
  clear hA1 hA2 hx hm6 hce hf hr hrw hrb hn hz hws hwc hwb hbs hb32 hD
  go_enter Try.func3, Try.ntmps3
  go_wp2_with fail
  go_at_call 5
  have hal : Below w.heap.size w ((w.alloc (.cells #[.int .i64 H, .int .i64 W, .int .i64 C, .slice A n c] 26)).alloc (.cells #[.slice WA nW cW, .slice BA nB cB, .int .i32 D] 29)) := ((Below.refl _ _).alloc (by first | exact Nat.le_refl _ | (simp; done) | (simp; omega)) _).alloc (by first | exact Nat.le_refl _ | (simp; done) | (simp; omega)) _
  refine (vfew_yes H W C A n c WA BA nW cW nB cB D HF.out _).mono ?_
  rintro e w1 ⟨rfl, hb⟩
  have hh : Below w.heap.size w w1 := hal.trans (hb.mono hal.size)
  have qTB := (boxNew H W C A n c 26) w
  try simp only [World.size_alloc] at qTB
  have TB := Lib.hid ((qTB.below (B' := w.heap.size + 1) (by omega) (((Below.refl _ _).alloc (by first | exact Nat.le_refl _ | (simp; done) | (simp; omega)) _).mono (by simp))).below (by first | (simp; done) | (simp; omega)) hb)
  have yTB : w.heap.size < w1.heap.size := by have := hb.size; simp at this; omega
  clear qTB
  have qTH := (headNew WA BA nW cW nB cB D 29) (w.alloc (.cells #[.int .i64 H, .int .i64 W, .int .i64 C, .slice A n c] 26))
  try simp only [World.size_alloc] at qTH
  have TH := Lib.hid (qTH.below (by first | (simp; done) | (simp; omega)) hb)
  have yTH : w.heap.size + 1 < w1.heap.size := by have := hb.size; simp at this; omega
  clear qTH
  replace HR := Lib.hid ((HR.out.below hh).more hh.size)
  replace HRW := Lib.hid ((HRW.out.below hh).more hh.size)
  replace HRB := Lib.hid ((HRB.out.below hh).more hh.size)
  have HBW : Hid (Below w.heap.size w w1) := Lib.hid hh
  obtain ⟨tbp0, tbp1, tbp2, tbp3⟩ := TB.out
  obtain ⟨thp0, thp1, thp2⟩ := TH.out
  clear hb hh hal
  go_wp2_with fail
  go_at_call 7
  have hal : Below w1.heap.size w1 w1 := Below.refl _ _
  refine (HL.out _ ((HR.out.below hal).more hal.size) ((HRW.out.below hal).more hal.size) ((HRB.out.below hal).more hal.size)).mono ?_
  rintro e w2 ⟨v2, rfl, ho2, hb⟩
  have hh : Below w1.heap.size w1 w2 := hal.trans (hb.mono hal.size)
  replace TB := Lib.hid (TB.out.below yTB hh)
  replace yTB := Nat.lt_of_lt_of_le yTB hh.size
  replace TH := Lib.hid (TH.out.below yTH hh)
  replace yTH := Nat.lt_of_lt_of_le yTH hh.size
  replace HR := Lib.hid ((HR.out.below hh).more hh.size)
  replace HRW := Lib.hid ((HRW.out.below hh).more hh.size)
  replace HRB := Lib.hid ((HRB.out.below hh).more hh.size)
  replace HBW := Lib.hid (HBW.out.trans (hh.mono HBW.out.size))
  clear tbp0 tbp1 tbp2 tbp3 thp0 thp1 thp2
  obtain ⟨A2, c2, rfl, -, -, hrd2⟩ := Kit.own_rd ho2
  have RA2 := Lib.hid hrd2
  clear ho2 hrd2
  obtain ⟨tbp0, tbp1, tbp2, tbp3⟩ := TB.out
  obtain ⟨thp0, thp1, thp2⟩ := TH.out
  clear hb hh hal
  go_wp2_with fail
  go_at_call 8
  have hal : Below w2.heap.size w2 (w2.alloc (.cells #[.int .i64 R, .int .i64 M, .slice A2 m c2, .bool b] 33)) := (Below.refl _ _).alloc (by first | exact Nat.le_refl _ | (simp; done) | (simp; omega)) _
  refine (HM.out _ ((HR.out.below hal).more hal.size) ((HRW.out.below hal).more hal.size) ((HRB.out.below hal).more hal.size)).mono ?_
  rintro e w3 ⟨v3, rfl, ho3, hb⟩
  have hh : Below w2.heap.size w2 w3 := hal.trans (hb.mono hal.size)
  have qTV1 := (verdNew R M (.slice A2 m c2) b 33) w2
  try simp only [World.size_alloc] at qTV1
  have TV1 := Lib.hid (qTV1.below (by first | (simp; done) | (simp; omega)) hb)
  have yTV1 : w2.heap.size < w3.heap.size := by have := hb.size; simp at this; omega
  clear qTV1
  replace TB := Lib.hid (TB.out.below yTB hh)
  replace yTB := Nat.lt_of_lt_of_le yTB hh.size
  replace TH := Lib.hid (TH.out.below yTH hh)
  replace yTH := Nat.lt_of_lt_of_le yTH hh.size
  replace HR := Lib.hid ((HR.out.below hh).more hh.size)
  replace HRW := Lib.hid ((HRW.out.below hh).more hh.size)
  replace HRB := Lib.hid ((HRB.out.below hh).more hh.size)
  replace RA2 := Lib.hid ((RA2.out.below hh).more hh.size)
  replace HBW := Lib.hid (HBW.out.trans (hh.mono HBW.out.size))
  clear tbp0 tbp1 tbp2 tbp3 thp0 thp1 thp2
  obtain ⟨A3, c3, rfl, -, -, hrd3⟩ := Kit.own_rd ho3
  have RA3 := Lib.hid hrd3
  clear ho3 hrd3
  obtain ⟨tbp0, tbp1, tbp2, tbp3⟩ := TB.out
  obtain ⟨thp0, thp1, thp2⟩ := TH.out
  clear hb hh hal
  go_upto_region 5 with fail
  have hal : Below w3.heap.size w3 (w3.alloc (.cells #[.int .i64 R, .int .i64 M, .slice A3 m c3, .bool b] 37)) := (Below.refl _ _).alloc (Nat.le_refl _) _
  have TW1 := Lib.hid (verdNew R M (.slice A3 m c3) b 37 w3)
  replace TB := Lib.hid (TB.out.below yTB hal)
  replace TH := Lib.hid (TH.out.below yTH hal)
  replace TV1 := Lib.hid (TV1.out.below yTV1 hal)
  replace RA2 := Lib.hid ((RA2.out.below hal).more hal.size)
  replace RA3 := Lib.hid ((RA3.out.below hal).more hal.size)
  replace HBW := Lib.hid (HBW.out.trans (hal.mono HBW.out.size))
  have hsz : w3.heap.size < (w3.alloc (.cells #[.int .i64 R, .int .i64 M, .slice A3 m c3, .bool b] 37)).heap.size := by simp
  clear hal tbp0 tbp1 tbp2 tbp3 thp0 thp1 thp2 HL HM HR HRW HRB HF
  generalize w3.alloc (.cells #[.int .i64 R, .int .i64 M, .slice A3 m c3, .bool b] 37) = W4 at TB TH TV1 TW1 RA2 RA3 HBW hsz ⊢
  generalize w3.heap.size = g3 at *
  generalize w2.heap.size = g2 at *
  obtain ⟨g0, hg0⟩ : ∃ g, w.heap.size = g := ⟨_, rfl⟩
  rw [hg0] at TB TH yTB yTH HBW ⊢
  generalize g0 + 1 = g1 at *
  refine wp_region_held_drew (S := fun w' => BoxAt g0 H W C A n c w' ∧ HeadAt g1 WA BA nW cW nB cB D w' ∧ VerdAt g2 R M (.slice A2 m c2) b w' ∧ VerdAt g3 R M (.slice A3 m c3) b w') (by kernel_rfl) ⟨TB.out, TH.out, TV1.out, TW1.out⟩ (fun hHeld => ?_)
  replace HBW := Lib.hid HBW.out.drew
  replace RA2 : Hid (Kit.Rd W4.drew W4.drew.heap.size A2 (I32v xs)) := Lib.hid RA2.out
  replace RA3 : Hid (Kit.Rd W4.drew W4.drew.heap.size A3 (I32v xs)) := Lib.hid RA3.out
  have hs0 : g0 < W4.drew.heap.size := Nat.lt_trans yTB hsz
  have hs1 : g1 < W4.drew.heap.size := Nat.lt_trans yTH hsz
  have hs2 : g2 < W4.drew.heap.size := Nat.lt_trans yTV1 hsz
  have hs3 : g3 < W4.drew.heap.size := hsz
  clear TB TH TV1 TW1 yTB yTH yTV1 hsz
  generalize W4.drew = Wd at HBW RA2 RA3 hs0 hs1 hs2 hs3 hHeld ⊢
  refine Tk.x 0 rfl ?_
  try simp only [Tk.put]
  refine Tk.x 1 rfl ?_
  try simp only [Tk.put]
  refine Tk.x 2 rfl ?_
  try simp only [Tk.put]
  refine Tk.x 3 rfl ?_
  try simp only [Tk.put]
  refine Tk.x 4 rfl ?_
  try simp only [Tk.put]
  refine Tk.y 5 (v := ?_) rfl ?_ ?_
  rotate_left
  · intro wS hSw
    obtain ⟨⟨s1, s2, s3, s4⟩, ⟨s5, s6, s7⟩, ⟨t1, t2, t3, t4⟩, u1, u2, u3, u4⟩ := hSw
    first | (go_simp; done) | (go_simp; with_reducible rfl)
  try simp only [Tk.put]
  refine Tk.x 6 rfl ?_
  try simp only [Tk.put]
  refine Tk.y 7 (v := ?_) rfl ?_ ?_
  rotate_left
  · intro wS hSw
    obtain ⟨⟨s1, s2, s3, s4⟩, ⟨s5, s6, s7⟩, ⟨t1, t2, t3, t4⟩, u1, u2, u3, u4⟩ := hSw
    first | (go_simp; done) | (go_simp; with_reducible rfl)
  try simp only [Tk.put]
  refine Tk.x 8 rfl ?_
  try simp only [Tk.put]
  refine Tk.x 9 rfl ?_
  try simp only [Tk.put]
  refine Tk.x 10 rfl ?_
  try simp only [Tk.put]
  refine Tk.x 11 rfl ?_
  try simp only [Tk.put]
  refine Tk.y 12 (v := ?_) rfl ?_ ?_
  rotate_left
  · intro wS hSw
    obtain ⟨⟨s1, s2, s3, s4⟩, ⟨s5, s6, s7⟩, ⟨t1, t2, t3, t4⟩, u1, u2, u3, u4⟩ := hSw
    first | (go_simp; done) | (go_simp; with_reducible rfl)
  try simp only [Tk.put]
  refine Tk.x 13 rfl ?_
  try simp only [Tk.put]
  refine Tk.y 14 (v := ?_) rfl ?_ ?_
  rotate_left
  · intro wS hSw
    obtain ⟨⟨s1, s2, s3, s4⟩, ⟨s5, s6, s7⟩, ⟨t1, t2, t3, t4⟩, u1, u2, u3, u4⟩ := hSw
    first | (go_simp; done) | (go_simp; with_reducible rfl)
  try simp only [Tk.put]
  refine Tk.x 15 rfl ?_
  try simp only [Tk.put]
  refine Tk.x 16 rfl ?_
  try simp only [Tk.put]
  refine Tk.x 17 rfl ?_
  try simp only [Tk.put]
  refine Tk.x 18 rfl ?_
  try simp only [Tk.put]
  refine Tk.y 19 (v := ?_) rfl ?_ ?_
  rotate_left
  · intro wS hSw
    obtain ⟨⟨s1, s2, s3, s4⟩, ⟨s5, s6, s7⟩, ⟨t1, t2, t3, t4⟩, u1, u2, u3, u4⟩ := hSw
    first | (go_simp; done) | (go_simp; with_reducible rfl)
  try simp only [Tk.put]
  refine Tk.x 20 rfl ?_
  try simp only [Tk.put]
  refine Tk.y 21 (v := ?_) rfl ?_ ?_
  rotate_left
  · intro wS hSw
    obtain ⟨⟨s1, s2, s3, s4⟩, ⟨s5, s6, s7⟩, ⟨t1, t2, t3, t4⟩, u1, u2, u3, u4⟩ := hSw
    first | (go_simp; done) | (go_simp; with_reducible rfl)
  try simp only [Tk.put]
  refine Tk.x 22 rfl ?_
  try simp only [Tk.put]
  refine Tk.x 23 rfl ?_
  try simp only [Tk.put]
  refine Tk.x 24 rfl ?_
  try simp only [Tk.put]
  refine Tk.x 25 rfl ?_
  try simp only [Tk.put]
  refine Tk.y 26 (v := ?_) rfl ?_ ?_
  rotate_left
  · intro wS hSw
    obtain ⟨⟨s1, s2, s3, s4⟩, ⟨s5, s6, s7⟩, ⟨t1, t2, t3, t4⟩, u1, u2, u3, u4⟩ := hSw
    first | (go_simp; done) | (go_simp; with_reducible rfl)
  try simp only [Tk.put]
  refine Tk.x 27 rfl ?_
  try simp only [Tk.put]
  refine Tk.y 28 (v := ?_) rfl ?_ ?_
  rotate_left
  · intro wS hSw
    obtain ⟨⟨s1, s2, s3, s4⟩, ⟨s5, s6, s7⟩, ⟨t1, t2, t3, t4⟩, u1, u2, u3, u4⟩ := hSw
    first | (go_simp; done) | (go_simp; with_reducible rfl)
  try simp only [Tk.put]
  refine Tk.s 29 rfl (fun K hK => ?_)
  go_simp
  go_at_call 9
  with_reducible refine (fsame32_yes A2 A3 xs m c2 c3 HX.out.symm HM6.out _ RA2.out RA3.out).mono ?_
  rintro e w5 ⟨rfl, m4, hm4⟩
  have hb : Below Wd.heap.size Wd w5 := by rw [hm4]; exact Kit.below_drewN (Below.refl _ _) m4
  clear hm4 RA2 RA3
  have hS2 := And.intro (hHeld.1.below hs0 hb) (And.intro (hHeld.2.1.below hs1 hb) (And.intro (hHeld.2.2.1.below hs2 hb) (hHeld.2.2.2.below hs3 hb)))
  replace HBW := Lib.hid (HBW.out.trans (hb.mono (Nat.le_of_lt hs0)))
  replace hs0 := Nat.lt_of_lt_of_le hs0 hb.size
  replace hs1 := Nat.lt_of_lt_of_le hs1 hb.size
  replace hs2 := Nat.lt_of_lt_of_le hs2 hb.size
  replace hs3 := Nat.lt_of_lt_of_le hs3 hb.size
  clear hb hHeld
  dsimp only
  refine hK.out _ _ hS2 (fun hHeld => ?_)
  clear hK K hS2
  try simp only [Tk.put]
  refine Tk.x 30 rfl ?_
  try simp only [Tk.put]
  refine Tk.x 31 rfl ?_
  try simp only [Tk.put]
  refine Tk.x 32 rfl ?_
  try simp only [Tk.put]
  refine Tk.y 33 (v := ?_) rfl ?_ ?_
  rotate_left
  · intro wS hSw
    obtain ⟨⟨s1, s2, s3, s4⟩, ⟨s5, s6, s7⟩, ⟨t1, t2, t3, t4⟩, u1, u2, u3, u4⟩ := hSw
    first | (go_simp; done) | (go_simp; with_reducible rfl)
  try simp only [Tk.put]
  refine Tk.y 34 (v := ?_) rfl ?_ ?_
  rotate_left
  · intro wS hSw
    obtain ⟨⟨s1, s2, s3, s4⟩, ⟨s5, s6, s7⟩, ⟨t1, t2, t3, t4⟩, u1, u2, u3, u4⟩ := hSw
    first | (go_simp; done) | (go_simp; with_reducible rfl)
  try simp only [Tk.put]
  refine Tk.x 35 rfl ?_
  try simp only [Tk.put]
  refine Tk.x 37 rfl ?_
  try simp only [Tk.put]
  refine Tk.y 38 (v := ?_) rfl ?_ ?_
  rotate_left
  · intro wS hSw
    obtain ⟨⟨s1, s2, s3, s4⟩, ⟨s5, s6, s7⟩, ⟨t1, t2, t3, t4⟩, u1, u2, u3, u4⟩ := hSw
    first | (go_simp; done) | (go_simp; with_reducible rfl)
  try simp only [Tk.put]
  refine Tk.y 39 (v := ?_) rfl ?_ ?_
  rotate_left
  · intro wS hSw
    obtain ⟨⟨s1, s2, s3, s4⟩, ⟨s5, s6, s7⟩, ⟨t1, t2, t3, t4⟩, u1, u2, u3, u4⟩ := hSw
    first | (go_simp; done) | (go_simp; with_reducible rfl)
  try simp only [Tk.put]
  refine Tk.x 40 rfl ?_
  try simp only [Tk.put]
  refine Tk.s 36 rfl (fun K hK => ?_)
  go_simp
  go_at_call 10
  with_reducible refine (HK1.out _).mono ?_
  rintro e w6 ⟨rfl, hb⟩
  have hS2 := And.intro (hHeld.1.below hs0 hb) (And.intro (hHeld.2.1.below hs1 hb) (And.intro (hHeld.2.2.1.below hs2 hb) (hHeld.2.2.2.below hs3 hb)))
  replace HBW := Lib.hid (HBW.out.trans (hb.mono (Nat.le_of_lt hs0)))
  replace hs0 := Nat.lt_of_lt_of_le hs0 hb.size
  replace hs1 := Nat.lt_of_lt_of_le hs1 hb.size
  replace hs2 := Nat.lt_of_lt_of_le hs2 hb.size
  replace hs3 := Nat.lt_of_lt_of_le hs3 hb.size
  clear hb hHeld
  dsimp only
  refine hK.out _ _ hS2 (fun hHeld => ?_)
  clear hK K hS2
  try simp only [Tk.put]
  refine Tk.s 41 rfl (fun K hK => ?_)
  go_simp
  go_at_call 11
  with_reducible refine (HK2.out _).mono ?_
  rintro e w7 ⟨rfl, hb⟩
  have hS2 := And.intro (hHeld.1.below hs0 hb) (And.intro (hHeld.2.1.below hs1 hb) (And.intro (hHeld.2.2.1.below hs2 hb) (hHeld.2.2.2.below hs3 hb)))
  replace HBW := Lib.hid (HBW.out.trans (hb.mono (Nat.le_of_lt hs0)))
  replace hs0 := Nat.lt_of_lt_of_le hs0 hb.size
  replace hs1 := Nat.lt_of_lt_of_le hs1 hb.size
  replace hs2 := Nat.lt_of_lt_of_le hs2 hb.size
  replace hs3 := Nat.lt_of_lt_of_le hs3 hb.size
  clear hb hHeld
  dsimp only
  refine hK.out _ _ hS2 (fun hHeld => ?_)
  clear hK K hS2
  try simp only [Tk.put]
  refine Tk.x 42 rfl ?_
  try simp only [Tk.put]
  refine Tk.x 43 rfl ?_
  try simp only [Tk.put]
  refine Tk.x 44 rfl ?_
  try simp only [Tk.put]
  refine Tk.s 45 rfl (fun K hK => ?_)
  go_simp
  go_at_call 6
  with_reducible refine (known30 _).mono ?_
  rintro e w8 ⟨rfl, hb⟩
  have hS2 := And.intro (hHeld.1.below hs0 hb) (And.intro (hHeld.2.1.below hs1 hb) (And.intro (hHeld.2.2.1.below hs2 hb) (hHeld.2.2.2.below hs3 hb)))
  replace HBW := Lib.hid (HBW.out.trans (hb.mono (Nat.le_of_lt hs0)))
  replace hs0 := Nat.lt_of_lt_of_le hs0 hb.size
  replace hs1 := Nat.lt_of_lt_of_le hs1 hb.size
  replace hs2 := Nat.lt_of_lt_of_le hs2 hb.size
  replace hs3 := Nat.lt_of_lt_of_le hs3 hb.size
  clear hb hHeld
  dsimp only
  refine hK.out _ _ hS2 (fun hHeld => ?_)
  clear hK K hS2
  try simp only [Tk.put]
  refine Tk.x 46 rfl ?_
  try simp only [Tk.put]
  refine Tk.x 47 rfl ?_
  try simp only [Tk.put]
  refine wpAnyH_done (by kernel_rfl) ?_ _
  go_wp2_with fail
  go_ret
  exact ⟨rfl, by rw [hg0]; exact HBW.out⟩
theorem walk {w : World} (H : Int) (wH : (Lit.int .i64 H).wf = true) (W : Int) (wW : (Lit.int .i64 W).wf = true) (C : Int) (wC : (Lit.int .i64 C).wf = true) (A : Option Addr) (zs : List Int) (c : Nat) (hc : zs.length ≤ c) (hm : c ≤ maxLen) (hw : ∀ n ∈ zs, (Lit.int .i8 n).wf = true) (hr : Kit.Rd w w.heap.size A (zs.map (.int .i8)))
    (WA : Option Addr) (ws : List Int) (cW : Nat) (hc1 : ws.length ≤ cW) (hm1 : cW ≤ maxLen) (hw1 : ∀ n ∈ ws, (Lit.int .i8 n).wf = true) (hr1 : Kit.Rd w w.heap.size WA (ws.map (.int .i8)))
    (BA : Option Addr) (bs : List Int) (cB : Nat) (hc2 : bs.length ≤ cB) (hm2 : cB ≤ maxLen) (hw2 : ∀ n ∈ bs, (Lit.int .i32 n).wf = true) (hr2 : Kit.Rd w w.heap.size BA (bs.map (.int .i32)))
    (D : Int) (wD : (Lit.int .i32 D).wf = true) (N : Int) (wN : (Lit.int .i64 N).wf = true) :
    Calls Try.prog 3 #[.agg #[.int .i64 H, .int .i64 W, .int .i64 C, .slice A zs.length c], .agg #[.slice WA ws.length cW, .slice BA bs.length cB, .int .i32 D], .int .i64 N] w fun e w' => e = .returned (.bool true) ∧ Below w.heap.size w w' := by
  have hD : -2147483648 ≤ D ∧ D ≤ 2147483647 := by simpa [Lit.wf, IntKind.min, IntKind.max, IntKind.signed, IntKind.bits] using wD
  by_cases hf : zs.length ≤ 1024 ∧ ws.length ≤ 4000 ∧ bs.length ≤ 100
  · exact walk_yes H W C A zs _ c rfl (I8b_of hw) WA BA _ cW _ cB D N ws rfl hc1 (I8b_of hw1) bs rfl (I32b_of hw2) hD.2 hf hr hr1 hr2
  · exact walk_no H W C A _ c WA BA _ cW _ cB D N hf
/-! ### the frame: written by program -/
theorem own : ownKnob Try.prog.godebug = none := by kernel_rfl
theorem laid : laidOutB Try.prog = true := by kernel_rfl
theorem contract {H : Type} {enc : TypeId × Value → H} {W : World} {base : Nat} {args : Array Value} {ds gs : List (DataW H)} {before : List MemPlace}
    (hval0 : ∀ (j : Nat) t v, Try.f3.params[j]? = some t → args[j]? = some v → Value.okWide Try.prog W .any base t v)
    (hW : DataW.Whole enc Try.prog Try.f3.params.toList Rows.verdictLooksSpec.vars false W args.toList ds gs before) :
    Calls Try.prog 3 args W fun e W' => e = .returned (.bool true) ∧ Below W.heap.size W W' := by
  have hval : ∀ (j : Nat) t v, Try.f3.params[j]? = some t → args[j]? = some v → Value.okWide Try.prog W .any base t v := hval0
  obtain ⟨p, q, hA0, hV, rfl, hfz, hnd⟩ := hW
  have hA : DataW.TrodAll enc Try.prog W 0 (fun _ => true) true Try.f3.params.toList args.toList ds p := hA0
  rw [Try.params3] at hA hval
  obtain ⟨v0, vs0, d0, ds0, p0, q0, hargs, rfl, rfl, h0, r0⟩ := trodAll_cons hA
  obtain ⟨v1, vs1, d1, ds1, p1, q1, rfl, rfl, rfl, h1, r1⟩ := trodAll_cons r0
  obtain ⟨v2, vs2, d2, ds2, p2, q2, rfl, rfl, rfl, h2, r2⟩ := trodAll_cons r1
  obtain ⟨rfl, rfl, rfl⟩ := trodAll_nil r2
  obtain rfl : args = #[v0, v1, v2] := by cases args; simp_all
  clear hA0 hval0
  obtain ⟨x0, y0, t0, A0, z0, c0, rfl, wx0, wy0, wt0, hc0, hm0, hw0, hr0⟩ := Kit.open_tensor (s := 23) (d := 24) (e := 46) (i := 3) Try.underlying26 Try.underlying23 Try.underlying24 Try.underlying46 Try.underlying3 (by kernel_rfl) (by kernel_rfl) (by kernel_rfl) (by kernel_rfl) (by kernel_rfl) ⟨rfl, rfl, rfl, rfl⟩ ⟨rfl, rfl, rfl, rfl, rfl, rfl⟩ (hval 0 26 v0 rfl rfl) h0
  obtain ⟨cs1, rfl, hs1, hf1⟩ := Kit.open_flat Try.underlying29 (by kernel_rfl) (by kernel_rfl) (hval 1 29 v1 rfl rfl) h1
  obtain ⟨u1_0, u1_1, u1_2, rfl⟩ := Kit.size_3 hs1
  obtain ⟨A1_0, z1_0, c1_0, rfl, hc1_0, hm1_0, hw1_0, hr1_0⟩ := Kit.flat_islice Try.underlying24 Try.underlying46 (by kernel_rfl) (v := u1_0) rfl (hf1 0 _ rfl)
  obtain ⟨A1_1, z1_1, c1_1, rfl, hc1_1, hm1_1, hw1_1, hr1_1⟩ := Kit.flat_islice Try.underlying27 Try.underlying21 (by kernel_rfl) (v := u1_1) rfl (hf1 1 _ rfl)
  obtain ⟨a1_2, rfl, w1_2⟩ := Kit.flat_int Try.underlying21 (v := u1_2) rfl (hf1 2 _ rfl)
  obtain ⟨a2, rfl, rfl, rfl, w2⟩ := open_int Try.underlying3 (hval 2 3 v2 rfl rfl) h2
  exact walk (w := W) x0 wx0 y0 wy0 t0 wt0 A0 z0 c0 hc0 hm0 hw0 hr0 A1_0 z1_0 c1_0 hc1_0 hm1_0 hw1_0 hr1_0 A1_1 z1_1 c1_1 hc1_1 hm1_1 hw1_1 hr1_1 a1_2 w1_2 a2 w2
theorem fnIs {H : Type} : ∀ ds : List (DataW H), ds.length = Try.f3.params.toList.length → Rows.verdictLooksSpec.fn H ds = { results := [.lit (.bool true)], args := ds } := by
  intro ds h
  rw [Try.params3] at h
  match ds, h with
  | [d1, d2, d3], _ => rfl
set_option maxRecDepth 100000 in
theorem lifted (os : Os) (started : os.Started) (H : Type) (enc : TypeId × Value → H) :
    ReturnsInHanded {} Try.checked os 3 .any (Rows.verdictLooksSpec.pre6 enc Try.prog Try.f3 Rows.verdictLooksRow.domain false) (Rows.verdictLooksSpec.post enc Try.prog Try.f3 false true false false) := by
  refine returnsInHanded_of_change (C := Try.checked) own started (by kernel_rfl) Try.func3
    (ChangeSpec.witness6 (enc := enc) (C := Try.checked) false ⟨#[], #[.agg #[.int .i64 0, .int .i64 0, .int .i64 0, .slice none 0 0], .agg #[.slice none 0 0, .slice none 0 0, .int .i32 0], .int .i64 0], []⟩ 8 (by kernel_rfl) (by kernel_rfl) (by kernel_rfl) (by kernel_rfl)) ?_
  intro W base args ds gs before hval hW _ _
  refine (contract hval hW).mono fun e W' ⟨he, hg⟩ => ?_
  subst he
  exact ⟨_, rfl, Kit.law_post (tb := 4) laid (by kernel_rfl) rfl (by kernel_rfl) Try.underlying4 fnIs hW hg⟩
theorem over : Rows.verdictLooksRow.holds Try.pinned (OpenSpec.ofChange Rows.verdictLooksSpec) :=
  OpenClaim.holds_of_wide 3 Try.f3 rfl rfl rfl rfl rfl rfl rfl ⟨rfl, rfl, rfl, rfl, rfl⟩ rfl rfl rfl rfl rfl (by kernel_rfl) Try.func3 (by kernel_rfl)
    (of_decide_eq_true (by kernel_rfl)) (by unfold Func.isWrapper; first | (rw [if_pos (by decide +kernel)]; kernel_rfl) | (rw [if_neg (by decide +kernel)]; exact ⟨rfl, rfl⟩))
    (fun os started H enc _ => lifted os started H enc)
/-- the statement. -/
theorem proved : Rows.VerdictLooksSaid :=
  over
end Go.Proofs.Ytmnhcmkcdchmkaa.lawVerdictLooks
