/- Texts of this seat, one behind the other: KindChecks, ActPut. -/
import Derived.Deep.CutRange
import Derived.Deep.RegionHeld
import Derived.Laws.MakeOwn
import Derived.Test.YtoghpoopgkahiaaGreatDoorGA7
import Derived.Test.YtoghpoopgkahiaaGreatDoorGA21
import Derived.Test.YtoghpoopgkahiaaGreatDoorGA29
import Derived.Test.YtoghpoopgkahiaaGreatDoorGA31
import Derived.Test.YtoghpoopgkahiaaGreatDoorGA39
import Derived.Test.YtoghpoopgkahiaaGreatDoorGA42
section
namespace Go.Proofs.YtoghpoopgkahiaaGreatDoor.CKind
set_option maxRecDepth 100000
open Go Go.ChangeShapes Go.WideShapes Go.ChangeAt Go.RowKit Go.Deep
open Plain CSat CFix CShape CTensor CConv
set_option linter.unusedVariables false
set_option linter.unusedSimpArgs false
theorem alike_own (x : Nd) (h : 1 ≤ x.kd ∧ x.kd ≤ 9) : x.alikeB (x.ownK x.kd) = !x.moreB := by
  have hk : x.kd = 1 ∨ x.kd = 2 ∨ x.kd = 3 ∨ x.kd = 4 ∨ x.kd = 5 ∨ x.kd = 6 ∨ x.kd = 7 ∨ x.kd = 8 ∨ x.kd = 9 := by omega
  clear h
  rw [Bool.eq_iff_iff]
  rcases hk with h | h | h | h | h | h | h | h | h
  all_goals
    simp [Nd.alikeB, nineB, Nd.ownK, Nd.moreB, sumsB, slidesB, scaledB, h]
    try omega
theorem own_small (x : Nd) (k : Int) (hx : x.Small) : (x.ownK k).Small := by
  obtain ⟨h1, h2, h3, h4⟩ := hx
  refine ⟨?_, ?_, ?_, ?_⟩
  all_goals
    simp only [Nd.ownK]
    split <;> omega
theorem right_b (m s z : Int) (b : Bool) (h : rightB m s = b) (w : World) : Calls Tryz.prog 50 #[.agg #[.int .i32 m, .int .i64 s, .int .i8 z]] w fun e w' => e = .returned (.bool b) ∧ Below w.heap.size w w' := by
  cases b
  · exact isRight_no m s z h w
  · exact isRight_yes m s z h w
set_option maxRecDepth 100000 in
set_option maxHeartbeats 16000000 in
theorem check_to (x : Nd) (hx : x.Small) (w : World) (hT : NamesIn w) : Calls Tryz.prog 16 #[.agg x.val] w fun e w' => e = .returned (.int .i64 x.checkZ) ∧ Below w.heap.size w w' := by
  have TN := Lib.hid (NdAt.new x 28 w)
  have HB := Lib.hid ((Below.refl w.heap.size w).alloc (Nat.le_refl _) (.cells x.val 28))
  have HS : Hid (w.heap.size < (w.alloc (.cells x.val 28)).heap.size) := Lib.hid (by simp)
  have HT : Hid (NamesIn (w.alloc (.cells x.val 28))) := Lib.hid (hT.grown HB.out)
  obtain ⟨kb, hkb⟩ : ∃ b, knownB x.kd = b := ⟨_, rfl⟩
  obtain ⟨mb, hmb⟩ : ∃ mb, x.moreB = mb := ⟨_, rfl⟩
  obtain ⟨sb, hsb⟩ : ∃ sb, scaledB x.kd = sb := ⟨_, rfl⟩
  obtain ⟨r1, hr1⟩ : ∃ b, rightB x.m1 x.s1 = b := ⟨_, rfl⟩
  obtain ⟨r2, hr2⟩ : ∃ b, rightB x.m2 x.s2 = b := ⟨_, rfl⟩
  have hkn := fun (w : World) (h : NamesIn w) => known_to x.kd w h
  rw [hkb] at hkn
  have hsc := fun (w : World) => scaled_to x.kd w
  rw [hsb] at hsc
  have HKN := Lib.hid hkn
  have HSC := Lib.hid hsc
  have HRA := Lib.hid (fun (w : World) => right_b x.m1 x.s1 x.z1 r1 hr1 w)
  have HRB := Lib.hid (fun (w : World) => right_b x.m2 x.s2 x.z2 r2 hr2 w)
  have hz : x.checkZ = if kb = false then 6 else if mb = true then 2 else if ((sb && !r1) || (x.kd == 6 && !r2)) = true then 7 else if (sb && decide (x.hi < x.lo)) = true then 2 else 0 := by
    unfold Nd.checkZ; rw [hmb, hsb, hr1, hr2]
    by_cases h : x.kd < 1 ∨ 9 < x.kd
    · have e : kb = false := by rw [← hkb]; exact decide_eq_false (by omega)
      rw [if_pos h, e]; rfl
    · have e : kb = true := by rw [← hkb]; exact decide_eq_true (by omega)
      rw [if_neg h, e]; rfl
  have HZ := Lib.hid hz
  have HOW : Hid (kb = true → ∀ w, Calls Tryz.prog 48 #[.agg x.val] w fun e w' => e = .returned (.agg (x.ownK x.kd).val) ∧ Below w.heap.size w w') := Lib.hid (fun h w => own_to x (by rw [← hkb] at h; simpa [knownB] using h) w)
  have HAL : Hid (kb = true → ∀ w, Calls Tryz.prog 47 #[.agg x.val, .agg (x.ownK x.kd).val] w fun e w' => e = .returned (.bool !mb) ∧ Below w.heap.size w w') := Lib.hid (fun h w => csame_to x _ hx (own_small x _ hx) _ (by rw [alike_own x (by rw [← hkb] at h; simpa [knownB] using h), hmb]) w)
  generalize x.ownK x.kd = y at *
  clear hkb hmb hsb hr1 hr2 hz hkn hsc hx hT
  go_enter Tryz.func16, Tryz.ntmps16
  go_upto_region 1 with fail
  generalize w.alloc (.cells x.val 28) = W0 at TN HB HS HT ⊢
  have n0 := TN.out.at 0 (.int .i64 x.kd) rfl
  have n11 := TN.out.at 11 (.int .i32 x.m1) rfl
  have n12 := TN.out.at 12 (.int .i64 x.s1) rfl
  have n13 := TN.out.at 13 (.int .i8 x.z1) rfl
  have n14 := TN.out.at 14 (.int .i32 x.m2) rfl
  have n15 := TN.out.at 15 (.int .i64 x.s2) rfl
  have n16 := TN.out.at 16 (.int .i8 x.z2) rfl
  have n17 := TN.out.at 17 (.int .i8 x.lo) rfl
  have n18 := TN.out.at 18 (.int .i8 x.hi) rfl
  cases kb with
  | false =>
    go_wp2_with (go_at_call 46; (with_reducible refine (HKN.out _ HT.out).mono ?_); rintro e w1 ⟨rfl, rfl⟩)
    go_ret
    exact ⟨by rw [HZ.out]; rfl, HB.out⟩
  | true =>
    go_upto_region 3 with (go_at_call 46; (with_reducible refine (HKN.out _ HT.out).mono ?_); rintro e w1 ⟨rfl, rfl⟩)
    refine wp_region_held_drew (S := NdAt w.heap.size x) (by kernel_rfl) (TN.out.below HS.out (Below.refl _ _).drew) (fun hHeld => ?_)
    replace HB := Lib.hid (HB.out.trans (Below.refl _ W0).drew)
    replace HS : Hid (w.heap.size < W0.drew.heap.size) := Lib.hid HS.out
    clear TN HT HKN n0 n11 n12 n13 n14 n15 n16 n17 n18
    generalize W0.drew = W1 at *
    clear W0
    refine Tk.t 0 (v := .agg x.val) rfl (nd_load_at _ rfl (by rfl) _ x rfl (fun _ h => h)) (by assumption) ?_
    try simp only [Tk.put]
    refine Tk.t 1 (v := .agg x.val) rfl (nd_load_at _ rfl (by rfl) _ x rfl (fun _ h => h)) (by assumption) ?_
    try simp only [Tk.put]
    refine Tk.s 2 rfl (fun Kq hK => ?_)
    go_simp
    go_at_call 48
    with_reducible refine (HOW.out trivial _).mono ?_
    rintro e w1 ⟨rfl, hb⟩
    replace HB := Lib.hid (HB.out.trans (hb.mono HB.out.size))
    have hS2 := hHeld.below HS.out hb
    replace HS := Lib.hid (Nat.lt_of_lt_of_le HS.out hb.size)
    clear hb hHeld
    refine hK.out _ _ hS2 (fun hHeld => ?_)
    clear hK Kq hS2
    try simp only [Tk.put]
    refine Tk.s 3 rfl (fun Kq hK => ?_)
    go_simp
    go_at_call 47
    with_reducible refine (HAL.out trivial _).mono ?_
    rintro e w1 ⟨rfl, hb⟩
    replace HB := Lib.hid (HB.out.trans (hb.mono HB.out.size))
    have hS2 := hHeld.below HS.out hb
    replace HS := Lib.hid (Nat.lt_of_lt_of_le HS.out hb.size)
    clear hb hHeld
    refine hK.out _ _ hS2 (fun hHeld => ?_)
    clear hK Kq hS2
    try simp only [Tk.put]
    refine Tk.x 4 rfl ?_
    try simp only [Tk.put]
    refine Tk.x 5 rfl ?_
    try simp only [Tk.put]
    refine wpAnyH_done (by kernel_rfl) ?_ _
    have TN := Lib.hid hHeld
    clear hHeld HOW HAL
    have n0 := TN.out.at 0 (.int .i64 x.kd) rfl
    have n11 := TN.out.at 11 (.int .i32 x.m1) rfl
    have n12 := TN.out.at 12 (.int .i64 x.s1) rfl
    have n13 := TN.out.at 13 (.int .i8 x.z1) rfl
    have n14 := TN.out.at 14 (.int .i32 x.m2) rfl
    have n15 := TN.out.at 15 (.int .i64 x.s2) rfl
    have n16 := TN.out.at 16 (.int .i8 x.z2) rfl
    have n17 := TN.out.at 17 (.int .i8 x.lo) rfl
    have n18 := TN.out.at 18 (.int .i8 x.hi) rfl
    cases mb with
    | true =>
      go_wp2_with fail
      go_ret
      have hz3 : x.checkZ = 2 := by rw [HZ.out]; simp
      exact ⟨by rw [hz3]; rfl, HB.out⟩
    | false =>
      have HZ2 : Hid (x.checkZ = if ((sb && !r1) || (x.kd == 6 && !r2)) = true then 7 else if (sb && decide (x.hi < x.lo)) = true then 2 else 0) := Lib.hid (by rw [HZ.out]; simp)
      clear HZ
      obtain ⟨k6, hk6⟩ : ∃ b, (x.kd == 6) = b := ⟨_, rfl⟩
      obtain ⟨lb, hlb⟩ : ∃ b, decide (x.hi < x.lo) = b := ⟨_, rfl⟩
      rw [hk6, hlb] at HZ2
      cases sb <;> cases r1 <;> cases k6 <;> cases r2 <;> cases lb
      all_goals
        go_wp2_with (first | (go_at_call 49; (with_reducible refine (HSC.out _).mono ?_); rintro e w1 ⟨rfl, rfl⟩) | (go_at_call 50; (with_reducible refine (HRA.out _).mono ?_); rintro e w1 ⟨rfl, hb⟩; (replace TN := Lib.hid (TN.out.below HS.out hb)); (replace HB := Lib.hid (HB.out.trans (hb.mono HB.out.size))); (replace HS := Lib.hid (Nat.lt_of_lt_of_le HS.out hb.size)); clear hb n0 n11 n12 n13 n14 n15 n16 n17 n18; (have n0 := TN.out.at 0 (.int .i64 x.kd) rfl); (have n11 := TN.out.at 11 (.int .i32 x.m1) rfl); (have n12 := TN.out.at 12 (.int .i64 x.s1) rfl); (have n13 := TN.out.at 13 (.int .i8 x.z1) rfl); (have n14 := TN.out.at 14 (.int .i32 x.m2) rfl); (have n15 := TN.out.at 15 (.int .i64 x.s2) rfl); (have n16 := TN.out.at 16 (.int .i8 x.z2) rfl); (have n17 := TN.out.at 17 (.int .i8 x.lo) rfl); (have n18 := TN.out.at 18 (.int .i8 x.hi) rfl)) | (go_at_call 50; (with_reducible refine (HRB.out _).mono ?_); rintro e w1 ⟨rfl, hb⟩; (replace TN := Lib.hid (TN.out.below HS.out hb)); (replace HB := Lib.hid (HB.out.trans (hb.mono HB.out.size))); (replace HS := Lib.hid (Nat.lt_of_lt_of_le HS.out hb.size)); clear hb n0 n11 n12 n13 n14 n15 n16 n17 n18; (have n0 := TN.out.at 0 (.int .i64 x.kd) rfl); (have n11 := TN.out.at 11 (.int .i32 x.m1) rfl); (have n12 := TN.out.at 12 (.int .i64 x.s1) rfl); (have n13 := TN.out.at 13 (.int .i8 x.z1) rfl); (have n14 := TN.out.at 14 (.int .i32 x.m2) rfl); (have n15 := TN.out.at 15 (.int .i64 x.s2) rfl); (have n16 := TN.out.at 16 (.int .i8 x.z2) rfl); (have n17 := TN.out.at 17 (.int .i8 x.lo) rfl); (have n18 := TN.out.at 18 (.int .i8 x.hi) rfl)))
        go_ret
        exact ⟨by rw [HZ2.out]; rfl, HB.out⟩
end Go.Proofs.YtoghpoopgkahiaaGreatDoor.CKind
end
section
namespace Go.Proofs.YtoghpoopgkahiaaGreatDoor.CAct
set_option maxRecDepth 100000
open Go Go.ChangeShapes Go.WideShapes Go.ChangeAt Go.RowKit Go.Deep
open Plain CSat CFix CShape CTensor CConv
set_option linter.unusedVariables false
theorem all_of_c (A : Option Addr) (zs : List Int) (n c : Nat) (hn : zs.length = n) (hn6 : n ≤ 1000000) (hz : I32s zs) (x0 x1 x2 : Value) (K S P O Z Y : Int) (WA BA : Option Addr) (nW cW nB cB : Nat) (m1 s1 z1 m2 s2 z2 lo hi : Int) (hnb : NBd Z Y m1 z1 m2 z2 lo hi) (hq : rightB m1 s1 = true) (w : World) (hr : Kit.Rd w w.heap.size A (I32v zs)) :
    Calls Tryz.prog 113 #[.slice A n c, .agg #[.int .i32 m1, .int .i64 s1, .int .i8 z1], .int .i8 lo, .int .i8 hi] w (fun e w' => ∃ v, e = .returned v ∧ w'.ownsRow w.heap.size 22 1 v n (I8s (zs.map fun a => heldZ a m1 s1 z1 lo hi)) ∧ Below w.heap.size w w') := by
  obtain ⟨-, -, ⟨hm3, hm1⟩, ⟨hz1, hz2⟩, -, -, ⟨hl1, hl2⟩, ⟨hh1, hh2⟩⟩ := hnb
  subst hn
  exact all_yes A zs c m1 s1 z1 lo hi hq hn6 hz hm3 hm1 hz1 hz2 hl1 hl2 hh1 hh2 _ rfl w hr
set_option maxRecDepth 100000 in
set_option maxHeartbeats 8000000 in
theorem aput_yes (H W C : Int) (A : Option Addr) (zs : List Int) (n c : Nat) (hn : zs.length = n) (hn6 : n ≤ 1000000) (hz : I32s zs) (x0 x1 x2 : Value) (K S P O Z Y : Int) (WA BA : Option Addr) (nW cW nB cB : Nat) (m1 s1 z1 m2 s2 z2 lo hi : Int) (hnb : NBd Z Y m1 z1 m2 z2 lo hi) (h1 : tensB H W C n = true) (hq : rightB m1 s1 = true) (w : World) (hr : Kit.Rd w w.heap.size A (I32v zs)) :
    Calls Tryz.prog 68 #[.agg #[.int .i64 H, .int .i64 W, .int .i64 C, .slice A n c], .agg #[x0, x1, x2, .int .i64 K, .int .i64 S, .int .i64 P, .int .i64 O, .int .i8 Z, .int .i8 Y, .slice WA nW cW, .slice BA nB cB, .int .i32 m1, .int .i64 s1, .int .i8 z1, .int .i32 m2, .int .i64 s2, .int .i8 z2, .int .i8 lo, .int .i8 hi]] w (MadeT w H W C n (zs.map fun a => heldZ a m1 s1 z1 lo hi) (.int .i64 0)) := by
  have HT1 := Lib.hid h1
  have HQ := Lib.hid hq
  have HN := Lib.hid hn
  have HZ := Lib.hid hz
  have HNB := Lib.hid hnb
  have HRA := Lib.hid hr
  clear h1 hq hn hz hnb hr
  go_enter Tryz.func68, Tryz.ntmps68
  go_wp2_with (first
  | (go_at_call 112
     have hal : Below w.heap.size w (((w.alloc (.cells #[.int .i64 H, .int .i64 W, .int .i64 C, .slice A n c] 41)).alloc (.cells #[x0, x1, x2, .int .i64 K, .int .i64 S, .int .i64 P, .int .i64 O, .int .i8 Z, .int .i8 Y, .slice WA nW cW, .slice BA nB cB, .int .i32 m1, .int .i64 s1, .int .i8 z1, .int .i32 m2, .int .i64 s2, .int .i8 z2, .int .i8 lo, .int .i8 hi] 28)).alloc (.cells #[.int .i64 0, .int .i64 0, .int .i64 0, .slice none 0 0] 32)) := (((Below.refl _ _).alloc (by first | exact Nat.le_refl _ | (simp; done) | (simp; omega)) _).alloc (by first | exact Nat.le_refl _ | (simp; done) | (simp; omega)) _).alloc (by first | exact Nat.le_refl _ | (simp; done) | (simp; omega)) _
     refine (rsums_to H W C A n c true HT1.out _).mono ?_
     rintro e w1 ⟨rfl, hb⟩
     have hh : Below w.heap.size w w1 := hal.trans (hb.mono hal.size)
     have qTA := (boxNew H W C A n c 41) w
     try simp only [World.size_alloc] at qTA
     have TA := Lib.hid ((qTA.below (B' := w.heap.size + 1) (by omega) ((((Below.refl _ _).alloc (by first | exact Nat.le_refl _ | (simp; done) | (simp; omega)) _).alloc (by first | exact Nat.le_refl _ | (simp; done) | (simp; omega)) _).mono (by simp))).below (by first | (simp; done) | (simp; omega)) hb)
     have yTA : w.heap.size < w1.heap.size := by have := hb.size; simp at this; omega
     clear qTA
     have qTN := (NodeAt.new x0 x1 x2 (.int .i8 Y) (.int .i32 m1) (.int .i64 s1) (.int .i8 z1) (.int .i32 m2) (.int .i64 s2) (.int .i8 z2) (.int .i8 lo) (.int .i8 hi) K S P O Z WA BA nW cW nB cB 28) (w.alloc (.cells #[.int .i64 H, .int .i64 W, .int .i64 C, .slice A n c] 41))
     try simp only [World.size_alloc] at qTN
     have TN := Lib.hid ((qTN.below (B' := w.heap.size + 2) (by omega) (((Below.refl _ _).alloc (by first | exact Nat.le_refl _ | (simp; done) | (simp; omega)) _).mono (by simp))).below (by first | (simp; done) | (simp; omega)) hb)
     have yTN : w.heap.size + 1 < w1.heap.size := by have := hb.size; simp at this; omega
     clear qTN
     have qFR := (freshNew 32) ((w.alloc (.cells #[.int .i64 H, .int .i64 W, .int .i64 C, .slice A n c] 41)).alloc (.cells #[x0, x1, x2, .int .i64 K, .int .i64 S, .int .i64 P, .int .i64 O, .int .i8 Z, .int .i8 Y, .slice WA nW cW, .slice BA nB cB, .int .i32 m1, .int .i64 s1, .int .i8 z1, .int .i32 m2, .int .i64 s2, .int .i8 z2, .int .i8 lo, .int .i8 hi] 28))
     try simp only [World.size_alloc] at qFR
     have FR := Lib.hid (qFR.below (by first | (simp; done) | (simp; omega)) hb)
     have yFR : w.heap.size + 2 < w1.heap.size := by have := hb.size; simp at this; omega
     clear qFR
     replace HRA := Lib.hid ((HRA.out.below hh).more hh.size)
     have HBW : Hid (Below w.heap.size w w1) := Lib.hid hh
     obtain ⟨tap0, tap1, tap2, tap3⟩ := TA.out
     have n11 := TN.out.at 11 _ rfl
     have n12 := TN.out.at 12 _ rfl
     have n13 := TN.out.at 13 _ rfl
     clear hb hh hal)
  | (go_at_call 50
     have hal : Below w1.heap.size w1 w1 := Below.refl _ _
     refine (isRight_to _ _ _ _).mono ?_
     rintro e w2 ⟨rfl, hb⟩
     have hh : Below w1.heap.size w1 w2 := hal.trans (hb.mono hal.size)
     replace TA := Lib.hid (TA.out.below yTA hh)
     replace yTA := Nat.lt_of_lt_of_le yTA hh.size
     replace TN := Lib.hid (TN.out.below yTN hh)
     replace yTN := Nat.lt_of_lt_of_le yTN hh.size
     replace FR := Lib.hid (FR.out.below yFR hh)
     replace yFR := Nat.lt_of_lt_of_le yFR hh.size
     replace HRA := Lib.hid ((HRA.out.below hh).more hh.size)
     replace HBW := Lib.hid (HBW.out.trans (hh.mono HBW.out.size))
     clear tap0 tap1 tap2 tap3 n11 n12 n13
     rw [HQ.out]
     obtain ⟨tap0, tap1, tap2, tap3⟩ := TA.out
     have n11 := TN.out.at 11 _ rfl
     have n12 := TN.out.at 12 _ rfl
     have n13 := TN.out.at 13 _ rfl
     clear hb hh hal))
  clear tap0 tap1 tap2 tap3 n11 n12 n13
  refine wp_region_held_drew (S := fun w' => BoxAt w.heap.size H W C A n c w' ∧ NodeAt (w.heap.size + 1) x0 x1 x2 (.int .i8 Y) (.int .i32 m1) (.int .i64 s1) (.int .i8 z1) (.int .i32 m2) (.int .i64 s2) (.int .i8 z2) (.int .i8 lo) (.int .i8 hi) K S P O Z WA BA nW cW nB cB w') (by kernel_rfl) ⟨TA.out, TN.out⟩ (fun hHeld => ?_)
  replace HBW : Hid (Below w.heap.size w w2.drew) := Lib.hid HBW.out.drew
  replace HRA : Hid (Kit.Rd w2.drew w2.drew.heap.size A (I32v zs)) := Lib.hid (HRA.out.below ((Below.refl _ _).drew))
  replace FR : Hid (FreshT (w.heap.size + 2) w2.drew) := FR
  replace yFR : w.heap.size + 2 < w2.drew.heap.size := yFR
  replace TA : Hid (BoxAt w.heap.size H W C A n c w2.drew) := TA
  replace TN : Hid (NodeAt (w.heap.size + 1) x0 x1 x2 (.int .i8 Y) (.int .i32 m1) (.int .i64 s1) (.int .i8 z1) (.int .i32 m2) (.int .i64 s2) (.int .i8 z2) (.int .i8 lo) (.int .i8 hi) K S P O Z WA BA nW cW nB cB w2.drew) := TN
  generalize w2.drew = V1 at HBW HRA FR yFR TA TN hHeld ⊢
  refine Tk.x 0 rfl ?_
  try simp only [Tk.put]
  refine Tk.y 1 (v := ?_) rfl ?_ ?_
  rotate_left
  · intro wS hSw
    obtain ⟨hq1, hq2⟩ := hSw
    obtain ⟨s1, s2, s3, s4⟩ := hq1; clear hq2
    first | (go_simp; done) | (go_simp; with_reducible rfl)
  try simp only [Tk.put]
  refine Tk.x 2 rfl ?_
  try simp only [Tk.put]
  refine Tk.y 3 (v := ?_) rfl ?_ ?_
  rotate_left
  · intro wS hSw
    obtain ⟨hq1, hq2⟩ := hSw
    obtain ⟨s1, s2, s3, s4⟩ := hq1; clear hq2
    first | (go_simp; done) | (go_simp; with_reducible rfl)
  try simp only [Tk.put]
  refine Tk.x 4 rfl ?_
  try simp only [Tk.put]
  refine Tk.y 5 (v := ?_) rfl ?_ ?_
  rotate_left
  · intro wS hSw
    obtain ⟨hq1, hq2⟩ := hSw
    have q11 := hq2.at 11 _ rfl; have q12 := hq2.at 12 _ rfl; have q13 := hq2.at 13 _ rfl; clear hq1 hq2
    first | (go_simp; done) | (go_simp; with_reducible rfl)
  try simp only [Tk.put]
  refine Tk.x 6 rfl ?_
  try simp only [Tk.put]
  refine Tk.y 7 (v := ?_) rfl ?_ ?_
  rotate_left
  · intro wS hSw
    obtain ⟨hq1, hq2⟩ := hSw
    have q17 := hq2.at 17 _ rfl; clear hq1 hq2
    first | (go_simp; done) | (go_simp; with_reducible rfl)
  try simp only [Tk.put]
  refine Tk.x 8 rfl ?_
  try simp only [Tk.put]
  refine Tk.y 9 (v := ?_) rfl ?_ ?_
  rotate_left
  · intro wS hSw
    obtain ⟨hq1, hq2⟩ := hSw
    have q18 := hq2.at 18 _ rfl; clear hq1 hq2
    first | (go_simp; done) | (go_simp; with_reducible rfl)
  try simp only [Tk.put]
  refine Tk.s 10 rfl (fun Kq hK => ?_)
  go_simp
  go_at_call 113
  refine (all_of_c A zs n c HN.out hn6 HZ.out x0 x1 x2 K S P O Z Y WA BA nW cW nB cB m1 s1 z1 m2 s2 z2 lo hi HNB.out HQ.out V1 HRA.out).mono ?_
  rintro e V2 ⟨v3, rfl, ho3, hb1⟩
  obtain ⟨A3, c3, rfl, -, -, -⟩ := Kit.own_rd ho3
  have HO3 := Lib.hid ho3
  have HGE : Hid (w.heap.size ≤ V1.heap.size) := Lib.hid HBW.out.size
  have HGT : Hid (w.heap.size + 2 < V1.heap.size) := Lib.hid yFR
  replace FR := Lib.hid (FR.out.below yFR hb1)
  replace TA := Lib.hid (TA.out.below (Nat.lt_of_le_of_lt (Nat.le_add_right _ 2) yFR) hb1)
  replace TN := Lib.hid (TN.out.below (Nat.lt_of_le_of_lt (Nat.le_succ _) yFR) hb1)
  replace HBW := Lib.hid (HBW.out.trans (hb1.mono HBW.out.size))
  replace yFR := Nat.lt_of_lt_of_le yFR hb1.size
  clear hHeld hb1 ho3
  dsimp only
  refine hK.out _ _ ?_ (fun hHeld => ?_)
  · exact ⟨TA.out, TN.out⟩
  clear hK Kq
  try simp only [Tk.put]
  refine Tk.x 11 rfl ?_
  try simp only [Tk.put]
  obtain ⟨⟨z0, z1', z2', z3⟩, z4, z5, z6, z7⟩ := FR.out
  have hb9 : ∀ x y z u : Value, Below (w.heap.size + 2) V2 ((((V2.setCell ⟨w.heap.size + 2, 0, none⟩ x).setCell ⟨w.heap.size + 2, 1, none⟩ y).setCell ⟨w.heap.size + 2, 2, none⟩ z).setCell ⟨w.heap.size + 2, 3, none⟩ u) := fun x y z u => (((((Below.refl _ _).setCell (p := ⟨w.heap.size + 2, 0, none⟩) (Nat.le_refl _) _).setCell (p := ⟨w.heap.size + 2, 1, none⟩) (Nat.le_refl _) _).setCell (p := ⟨w.heap.size + 2, 2, none⟩) (Nat.le_refl _) _).setCell (p := ⟨w.heap.size + 2, 3, none⟩) (Nat.le_refl _) _)
  have HB9 := Lib.hid hb9
  clear hb9
  refine Tk.s 12 rfl (fun Kq hK => ?_)
  go_simp
  refine hK.out _ _ ?_ (fun hHeld => ?_)
  · exact ⟨TA.out.below (by omega) (HB9.out _ _ _ _), TN.out.below (by omega) (HB9.out _ _ _ _)⟩
  clear hK Kq
  try simp only [Tk.put]
  refine Tk.x 13 rfl ?_
  try simp only [Tk.put]
  refine wpAnyH_done (by kernel_rfl) ?_ _
  clear hHeld
  go_wp2_with fail
  refine bodyPost_ret (Kit.results_ct rfl _ _ (w.heap.size + 2) 0 [.int .i64 H, .int .i64 W, .int .i64 C, .slice A3 n c3] _ rfl (range_4 (by go_cell) (by go_cell) (by go_cell) (by go_cell)) Tryz.underlying32 rfl (by kernel_rfl)) rfl ?_
  refine ⟨_, rfl, Kit.own_base (own_set4 HO3.out ?_) ?_, ?_⟩
  any_goals (first | exact HGE.out | exact HGT.out | omega | (simp; done) | (simp; omega))
  exact (((HBW.out.setCell (p := ⟨w.heap.size + 2, 0, none⟩) (by simp) _).setCell (p := ⟨w.heap.size + 2, 1, none⟩) (by simp) _).setCell (p := ⟨w.heap.size + 2, 2, none⟩) (by simp) _).setCell (p := ⟨w.heap.size + 2, 3, none⟩) (by simp) _
end Go.Proofs.YtoghpoopgkahiaaGreatDoor.CAct
end
