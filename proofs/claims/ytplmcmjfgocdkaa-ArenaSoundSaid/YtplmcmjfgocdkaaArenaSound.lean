/- ArenaSound: whether any places are such that no two values meet is told as the document says; the call returns true and leaves its arguments as they were. No condition. -/
import Derived.Test.YtplmcmjfgocdkaaArenaKnown
import Derived.Deep.CutRange
namespace Go.Proofs.Ytplmcmjfgocdkaa.lawArenaSound
open Go Go.ChangeShapes Go.WideShapes Go.ChangeAt Go.RowKit Go.Deep
open Plain CArena
set_option linter.unusedVariables false

set_option maxRecDepth 100000 in
set_option maxHeartbeats 8000000 in
theorem walk_n {w : World} (A A' : Option Addr) (n c m c' : Nat) (A3 : Option Addr) (l c3 : Nat) (h : ¬ n ≤ 24) :
    Calls Try.prog 4 #[.slice A n c, .slice A' m c', .slice A3 l c3] w fun e w' => e = .returned (.bool true) ∧ Below w.heap.size w w' := by
  have h1 : (n : Int) > 24 := by omega
  go_enter Try.func4, Try.ntmps4
  go_wp2_with (go_at_call 6; (refine (known28 _).mono ?_); rintro e w9 ⟨rfl, hb9⟩)
  go_ret
  exact ⟨rfl, hb9⟩
set_option maxRecDepth 100000 in
set_option maxHeartbeats 8000000 in
theorem walk_m {w : World} (A A' : Option Addr) (n c m c' : Nat) (A3 : Option Addr) (l c3 : Nat) (h0 : n ≤ 24) (h : ¬ m ≤ 24) :
    Calls Try.prog 4 #[.slice A n c, .slice A' m c', .slice A3 l c3] w fun e w' => e = .returned (.bool true) ∧ Below w.heap.size w w' := by
  have h2 : ¬ (n : Int) > 24 := by omega
  have h1 : (m : Int) > 24 := by omega
  go_enter Try.func4, Try.ntmps4
  go_wp2_with (go_at_call 6; (refine (known28 _).mono ?_); rintro e w9 ⟨rfl, hb9⟩)
  go_ret
  exact ⟨rfl, hb9⟩
set_option maxRecDepth 100000 in
set_option maxHeartbeats 8000000 in
theorem walk_l {w : World} (A A' : Option Addr) (n c m c' : Nat) (A3 : Option Addr) (l c3 : Nat) (h0 : n ≤ 24) (h3 : m ≤ 24) (h : ¬ l ≤ 24) :
    Calls Try.prog 4 #[.slice A n c, .slice A' m c', .slice A3 l c3] w fun e w' => e = .returned (.bool true) ∧ Below w.heap.size w w' := by
  have h2 : ¬ (n : Int) > 24 := by omega
  have h4 : ¬ (m : Int) > 24 := by omega
  have h1 : (l : Int) > 24 := by omega
  go_enter Try.func4, Try.ntmps4
  go_wp2_with (go_at_call 6; (refine (known28 _).mono ?_); rintro e w9 ⟨rfl, hb9⟩)
  go_ret
  exact ⟨rfl, hb9⟩
/-- what the law has found of the first i places. -/
def wantI (S U P : Nat → Int) : Nat → Bool
  | 0 => true
  | i + 1 => wantI S U P i && (decide (0 ≤ P i ∧ P i ≤ 1099511627776) && fitN S U P i (P i) i)
theorem wantI_split (S U P : Nat → Int) (n : Nat) : wantI S U P n = (inN P 1099511627776 n && sndN S U P n) := by
  induction n with
  | zero => rfl
  | succ n ih =>
    rw [wantI, inN, sndN, ih, Bool.and_assoc, Bool.and_assoc]
    congr 1
    rw [Bool.and_left_comm]
/-- v tells whether all is well up to place i, or it is known that the whole is not sound. -/
def GoodTo (S U P : Nat → Int) (n m l i : Nat) (b : Bool) : Prop := (b = true → (rightB S n m = true ∧ l = n) ∧ wantI S U P i = true) ∧ (b = false → soundB S U P n m l = false)
def GoodIn (S U P : Nat → Int) (n m l i k : Nat) (b : Bool) : Prop := (b = true → (0 ≤ P i ∧ P i ≤ 1099511627776) ∧ fitN S U P i (P i) k = true) ∧ (b = false → soundB S U P n m l = false)
theorem sound_want {S U P : Nat → Int} {n m l : Nat} : soundB S U P n m l = (rightB S n m && decide (l = n) && wantI S U P l) := by
  rw [wantI_split]; unfold soundB; rw [Bool.and_assoc]
theorem want_no {S U P : Nat → Int} {n m l i : Nat} (hi : i < l) (h : (decide (0 ≤ P i ∧ P i ≤ 1099511627776) && fitN S U P i (P i) i) = false) : soundB S U P n m l = false := by
  rw [sound_want]
  have : wantI S U P l = false := by
    cases e : wantI S U P l with
    | false => rfl
    | true =>
      exfalso
      have key : ∀ j, j ≤ l → wantI S U P j = true := by
        intro j hj
        obtain ⟨d, rfl⟩ : ∃ d, l = j + d := ⟨l - j, by omega⟩
        clear hi hj
        induction d with
        | zero => exact e
        | succ d ih =>
          rw [show j + (d + 1) = (j + d) + 1 by omega, wantI, Bool.and_eq_true] at e
          exact ih e.1
      have h2 := key (i + 1) (by omega)
      rw [wantI, h, Bool.and_false] at h2; cases h2
  rw [this, Bool.and_false]
set_option maxRecDepth 100000 in
set_option maxHeartbeats 8000000 in
theorem walk_all {w : World} (S U P : Nat → Int) (A A' A3 : Option Addr) (n c m c' l c3 : Nat) (h0 : n ≤ 24) (h1 : m ≤ 24) (h2 : l ≤ 24) (hr : Kit.Rd w w.heap.size A (rowV S n)) (hr' : Kit.Rd w w.heap.size A' (rowV U m)) (hr3 : Kit.Rd w w.heap.size A3 (rowV P l)) :
    Calls Try.prog 4 #[.slice A n c, .slice A' m c', .slice A3 l c3] w fun e w' => e = .returned (.bool true) ∧ Below w.heap.size w w' := by
  have HR := Lib.hid hr
  have HS := Lib.hid hr'
  have HP := Lib.hid hr3
  obtain ⟨rb, hrb⟩ : ∃ rb, rightB S n m = rb := ⟨_, rfl⟩
  have HNO := Lib.hid hrb
  have h2a : ¬ (n : Int) > 24 := by omega
  have h3a : ¬ (m : Int) > 24 := by omega
  have h4a : ¬ (l : Int) > 24 := by omega
  have heq : ((l : Int) == (n : Int)) = decide (l = n) := by
    rw [Bool.eq_iff_iff]; simp; omega
  have hst : GoodTo S U P n m l 0 (if rb then decide (l = n) else false) := by
    refine ⟨fun h => ?_, fun h => ?_⟩
    · cases rb with
      | false => simp at h
      | true => exact ⟨⟨hrb, by simpa using h⟩, rfl⟩
    · rw [sound_want, hrb]
      cases rb with
      | false => simp
      | true => simp only [if_true] at h; rw [h]; simp
  have HST := Lib.hid hst
  have hfin : ∀ b, GoodTo S U P n m l l b → soundB S U P n m l = b := by
    intro b hb
    cases b with
    | false => exact hb.2 rfl
    | true =>
      obtain ⟨⟨a1, a2⟩, a3⟩ := hb.1 rfl
      rw [sound_want, a1, a3]; simp [a2]
  have HFIN : Hid (∀ b, GoodTo S U P n m l l b → soundB S U P n m l = b) := Lib.hid hfin
  clear hr hr' hr3 hrb hst hfin
  go_enter Try.func4, Try.ntmps4
  cases rb with
  | false =>
    simp only [if_neg (show ¬ (false = true) by decide)] at HST
    go_wp2_with (first
      | (go_at_call 8
         have hal : Below w.heap.size w w := Below.refl _ _
         refine (may_b S n c m c' _ (by omega) HNO.out A A' _ HR.out).mono ?_
         rintro e w1 ⟨rfl, hb⟩
         have hh : Below w.heap.size w w1 := hal.trans (hb.mono hal.size)
         replace HR := Lib.hid ((HR.out.below hh).more hh.size)
         replace HS := Lib.hid ((HS.out.below hh).more hh.size)
         replace HP := Lib.hid ((HP.out.below hh).more hh.size)
         have HBW : Hid (Below w.heap.size w w1) := Lib.hid hh
         clear hb hh hal))
    have HF := Lib.hid (HST.out.2 rfl)
    have HR0 := HR
    go_loopw [7, 8] (fun v u wr => v = .bool false ∧ u = .int .i64 0 ∧ Hid (Below w1.heap.size w1 wr)) (fun _ _ _ => 0)
    case atStart => exact ⟨rfl, rfl, Lib.hid (Below.refl _ _)⟩
    case round =>
      obtain ⟨rfl, rfl, HB2⟩ := hrel
      have HB1 : Hid (Below w.heap.size w wr) := Lib.hid (HBW.out.trans (HB2.out.mono HBW.out.size))
      replace HR := Lib.hid ((HR.out.below HB2.out).more HB2.out.size)
      replace HS := Lib.hid ((HS.out.below HB2.out).more HB2.out.size)
      replace HP := Lib.hid ((HP.out.below HB2.out).more HB2.out.size)
      clear HR0 HST
      by_cases hl0 : (0 : Int) < (l : Int)
      · go_wp2_with (first
          | (go_at_call 14
             have hal : Below wr.heap.size wr wr := Below.refl _ _
             refine (sound_b S U P _ c _ c' _ c3 false HF.out (by omega) (by omega) A A' A3 _ HR.out HS.out HP.out).mono ?_
             rintro e w3 ⟨rfl, hb⟩
             have hh : Below wr.heap.size wr w3 := hal.trans (hb.mono hal.size)
             replace HR := Lib.hid ((HR.out.below hh).more hh.size)
             replace HS := Lib.hid ((HS.out.below hh).more hh.size)
             replace HP := Lib.hid ((HP.out.below hh).more hh.size)
             replace HB1 := Lib.hid (HB1.out.trans (hh.mono HB1.out.size))
             clear hb hh hal)
          | (go_at_call 6
             have hal : Below w3.heap.size w3 w3 := Below.refl _ _
             refine (known28 _).mono ?_
             rintro e w5 ⟨rfl, hb⟩
             have hh : Below w3.heap.size w3 w5 := hal.trans (hb.mono hal.size)
             replace HR := Lib.hid ((HR.out.below hh).more hh.size)
             replace HS := Lib.hid ((HS.out.below hh).more hh.size)
             replace HP := Lib.hid ((HP.out.below hh).more hh.size)
             replace HB1 := Lib.hid (HB1.out.trans (hh.mono HB1.out.size))
             clear hb hh hal))
        go_ret
        exact ⟨rfl, HB1.out⟩
      · go_wp2_with (first
          | (go_at_call 14
             have hal : Below wr.heap.size wr wr := Below.refl _ _
             refine (sound_b S U P _ c _ c' _ c3 false HF.out (by omega) (by omega) A A' A3 _ HR.out HS.out HP.out).mono ?_
             rintro e w3 ⟨rfl, hb⟩
             have hh : Below wr.heap.size wr w3 := hal.trans (hb.mono hal.size)
             replace HR := Lib.hid ((HR.out.below hh).more hh.size)
             replace HS := Lib.hid ((HS.out.below hh).more hh.size)
             replace HP := Lib.hid ((HP.out.below hh).more hh.size)
             replace HB1 := Lib.hid (HB1.out.trans (hh.mono HB1.out.size))
             clear hb hh hal)
          | (go_at_call 6
             have hal : Below w3.heap.size w3 w3 := Below.refl _ _
             refine (known28 _).mono ?_
             rintro e w5 ⟨rfl, hb⟩
             have hh : Below w3.heap.size w3 w5 := hal.trans (hb.mono hal.size)
             replace HR := Lib.hid ((HR.out.below hh).more hh.size)
             replace HS := Lib.hid ((HS.out.below hh).more hh.size)
             replace HP := Lib.hid ((HP.out.below hh).more hh.size)
             replace HB1 := Lib.hid (HB1.out.trans (hh.mono HB1.out.size))
             clear hb hh hal))
        go_ret
        exact ⟨rfl, HB1.out⟩
  | true =>
    simp only [if_true] at HST
    by_cases hln : l = n
    · have heq2 : ((l : Int) == (n : Int)) = true := by rw [heq]; simp [hln]
      have hln2 : decide (l = n) = true := by simp [hln]
      rw [hln2] at HST
      clear heq hln2 hln
      go_wp2_with (first
        | (go_at_call 8
           have hal : Below w.heap.size w w := Below.refl _ _
           refine (may_b S n c m c' _ (by omega) HNO.out A A' _ HR.out).mono ?_
           rintro e w1 ⟨rfl, hb⟩
           have hh : Below w.heap.size w w1 := hal.trans (hb.mono hal.size)
           replace HR := Lib.hid ((HR.out.below hh).more hh.size)
           replace HS := Lib.hid ((HS.out.below hh).more hh.size)
           replace HP := Lib.hid ((HP.out.below hh).more hh.size)
           have HBW : Hid (Below w.heap.size w w1) := Lib.hid hh
           clear hb hh hal))
      go_loopw [7, 8] (fun v u wr => ∃ (i : Nat) (b : Bool), i ≤ l ∧ u = .int .i64 i ∧ v = .bool b ∧ Hid (GoodTo S U P n m l i b) ∧ Hid (Below w1.heap.size w1 wr)) (fun _ u _ => l - (intOf u).toNat)
      case atStart => exact ⟨0, true, Nat.zero_le _, rfl, rfl, HST, Lib.hid (Below.refl _ _)⟩
      case round =>
        obtain ⟨i, b, hi, rfl, rfl, HG, HB2⟩ := hrel
        have HB1 : Hid (Below w.heap.size w wr) := Lib.hid (HBW.out.trans (HB2.out.mono HBW.out.size))
        replace HR := Lib.hid ((HR.out.below HB2.out).more HB2.out.size)
        replace HS := Lib.hid ((HS.out.below HB2.out).more HB2.out.size)
        replace HP := Lib.hid ((HP.out.below HB2.out).more HB2.out.size)
        clear HST
        cases b with
        | false =>
          have HF := Lib.hid (HG.out.2 rfl)
          clear HG HFIN
          by_cases hlt : (i : Int) < (l : Int)
          · go_wp2_with (first
              | (go_at_call 14
                 have hal : Below wr.heap.size wr wr := Below.refl _ _
                 refine (sound_b S U P _ c _ c' _ c3 false HF.out (by omega) (by omega) A A' A3 _ HR.out HS.out HP.out).mono ?_
                 rintro e w3 ⟨rfl, hb⟩
                 have hh : Below wr.heap.size wr w3 := hal.trans (hb.mono hal.size)
                 replace HR := Lib.hid ((HR.out.below hh).more hh.size)
                 replace HS := Lib.hid ((HS.out.below hh).more hh.size)
                 replace HP := Lib.hid ((HP.out.below hh).more hh.size)
                 replace HB1 := Lib.hid (HB1.out.trans (hh.mono HB1.out.size))
                 clear hb hh hal)
              | (go_at_call 6
                 have hal : Below w3.heap.size w3 w3 := Below.refl _ _
                 refine (known28 _).mono ?_
                 rintro e w5 ⟨rfl, hb⟩
                 have hh : Below w3.heap.size w3 w5 := hal.trans (hb.mono hal.size)
                 replace HR := Lib.hid ((HR.out.below hh).more hh.size)
                 replace HS := Lib.hid ((HS.out.below hh).more hh.size)
                 replace HP := Lib.hid ((HP.out.below hh).more hh.size)
                 replace HB1 := Lib.hid (HB1.out.trans (hh.mono HB1.out.size))
                 clear hb hh hal))
            go_ret
            exact ⟨rfl, HB1.out⟩
          · go_wp2_with (first
              | (go_at_call 14
                 have hal : Below wr.heap.size wr wr := Below.refl _ _
                 refine (sound_b S U P _ c _ c' _ c3 false HF.out (by omega) (by omega) A A' A3 _ HR.out HS.out HP.out).mono ?_
                 rintro e w3 ⟨rfl, hb⟩
                 have hh : Below wr.heap.size wr w3 := hal.trans (hb.mono hal.size)
                 replace HR := Lib.hid ((HR.out.below hh).more hh.size)
                 replace HS := Lib.hid ((HS.out.below hh).more hh.size)
                 replace HP := Lib.hid ((HP.out.below hh).more hh.size)
                 replace HB1 := Lib.hid (HB1.out.trans (hh.mono HB1.out.size))
                 clear hb hh hal)
              | (go_at_call 6
                 have hal : Below w3.heap.size w3 w3 := Below.refl _ _
                 refine (known28 _).mono ?_
                 rintro e w5 ⟨rfl, hb⟩
                 have hh : Below w3.heap.size w3 w5 := hal.trans (hb.mono hal.size)
                 replace HR := Lib.hid ((HR.out.below hh).more hh.size)
                 replace HS := Lib.hid ((HS.out.below hh).more hh.size)
                 replace HP := Lib.hid ((HP.out.below hh).more hh.size)
                 replace HB1 := Lib.hid (HB1.out.trans (hh.mono HB1.out.size))
                 clear hb hh hal))
            go_ret
            exact ⟨rfl, HB1.out⟩
        | true =>
          by_cases hlt : i < l
          · have hltI : (i : Int) < (l : Int) := by omega
            have i0 : (0 : Int) ≤ (i : Int) := by omega
            obtain ⟨⟨g1, g2⟩, g3⟩ := HG.out.1 rfl
            obtain ⟨g4, g5⟩ := (rightB_iff (by omega)).1 g1
            rw [wantI_split, Bool.and_eq_true, inN_iff] at g3
            obtain ⟨b3, o3, rfl, x3, h3⟩ := rd_at HP.out (by omega)
            have d3 := h3 i hlt
            have HG4 := Lib.hid g4
            have HG5 := Lib.hid g5
            have HG3 := Lib.hid g3.1
            have HWI : Hid (wantI S U P i = true) := Lib.hid (HG.out.1 rfl).2
            have HH3 := Lib.hid h3
            have HX3 := Lib.hid x3
            have HLN := Lib.hid g2
            have HG1 := Lib.hid g1
            clear g1 g2 g3 g4 g5 h3 x3 HG HFIN
            by_cases hz : 0 ≤ P i ∧ P i ≤ 1099511627776
            · have z1 : P i ≥ 0 := hz.1
              have z2 : P i ≤ 1099511627776 := hz.2
              have HZ := Lib.hid hz
              clear hz
              obtain ⟨wo, hwo⟩ : ∃ wo, wo = wr := ⟨_, rfl⟩
              have HB3 : Hid (Below wo.heap.size wo wr) := by rw [hwo]; exact Lib.hid (Below.refl _ _)
              rw [← hwo] at HR HS HP HB2 HX3 HH3
              clear hwo HB1
              go_wp2_with fail
              go_loopw [7, 9] (fun v u wr => ∃ (k : Nat) (b : Bool), k ≤ i ∧ u = .int .i64 k ∧ v = .bool b ∧ Hid (GoodIn S U P n m l i k b) ∧ Hid (Below wo.heap.size wo wr)) (fun _ u _ => i - (intOf u).toNat)
              case atStart => exact ⟨0, true, Nat.zero_le _, rfl, rfl, Lib.hid ⟨fun _ => ⟨HZ.out, rfl⟩, fun h => (nomatch h)⟩, HB3⟩
              case round =>
                obtain ⟨k, b, hk, rfl, rfl, HI, HB4⟩ := hrel
                clear HB3 d3
                cases b with
                | false =>
                  have HGN : Hid (GoodTo S U P n m l (i + 1) false) := Lib.hid ⟨fun h => (nomatch h), fun _ => HI.out.2 rfl⟩
                  have HBN : Hid (Below w1.heap.size w1 wr) := Lib.hid (HB2.out.trans (HB4.out.mono HB2.out.size))
                  clear HI
                  by_cases hki : (k : Int) < (i : Int)
                  · go_wp2_with fail
                    go_roundw
                    case rel => exact ⟨i + 1, false, by omega, by go_num, rfl, HGN, HBN⟩
                    case measure => simp [intOf]; omega
                  · go_wp2_with fail
                    go_roundw
                    case rel => exact ⟨i + 1, false, by omega, by go_num, rfl, HGN, HBN⟩
                    case measure => simp [intOf]; omega
                | true =>
                  by_cases hki : k < i
                  · have hkI : (k : Int) < (i : Int) := by omega
                    have k0 : (0 : Int) ≤ (k : Int) := by omega
                    have k1 : (k : Int) < (l : Int) := by omega
                    have d3 : wr.cell? ⟨b3, o3 + i, none⟩ = some (.int .i64 (P i)) := (HB4.out.cell (p := ⟨b3, o3 + i, none⟩) HX3.out).trans (HH3.out i hlt)
                    have d4 : wr.cell? ⟨b3, o3 + k, none⟩ = some (.int .i64 (P k)) := (HB4.out.cell (p := ⟨b3, o3 + k, none⟩) HX3.out).trans (HH3.out k (by omega))
                    obtain ⟨p3, p4⟩ := HG3.out k hki
                    have hCM : ∀ q, Calls Try.prog 13 #[.slice A n c, .slice A' m c', .int .i64 i, .int .i64 (P i), .int .i64 k, .int .i64 (P k)] (wr.drewN q) fun e w' => e = .returned (.bool (hitB S U P i (P i) k)) ∧ wr.drewN q = w' := by
                      intro q
                      have hnm := HG4.out
                      have hln := HLN.out
                      have h := rmeet_to S U i k n c c' hki (by omega) (by omega) (P i) (P k) (by omega) (by omega) (by omega) (by omega) (HG5.out i (by omega)) (HG5.out k (by omega)) A A' (wr.drewN q) (((HR.out.below HB4.out)).drewN q) (by rw [hnm]; exact ((HS.out.below HB4.out)).drewN q)
                      rw [← hnm]; exact h
                    have HFT := Lib.hid (HI.out.1 rfl).2
                    clear HI
                    cases hh : hitB S U P i (P i) k with
                    | true =>
                      simp only [hh] at hCM
                      have CM := Lib.hid hCM
                      have HGN : Hid (GoodIn S U P n m l i (k + 1) false) := Lib.hid ⟨fun h => (nomatch h), fun _ => want_no hlt (by rw [fitN_no hki hh, Bool.and_false])⟩
                      clear hCM hh HFT
                      go_upto_region 11 with fail
                      go_quiet ((go_at_call 13; exact Kit.quiet_l (CM.out _)))
                      go_wp2_with fail
                      go_roundw
                      case rel => exact ⟨k + 1, false, by omega, by go_num, rfl, HGN, Lib.hid (Kit.below_drewN HB4.out _)⟩
                      case measure => simp [intOf]; omega
                    | false =>
                      simp only [hh] at hCM
                      have CM := Lib.hid hCM
                      have HGN : Hid (GoodIn S U P n m l i (k + 1) true) := Lib.hid ⟨fun _ => ⟨HZ.out, by rw [fitN, HFT.out, hh]; rfl⟩, fun h => (nomatch h)⟩
                      clear hCM hh HFT
                      go_upto_region 11 with fail
                      go_quiet ((go_at_call 13; exact Kit.quiet_l (CM.out _)))
                      go_wp2_with fail
                      go_roundw
                      case rel => exact ⟨k + 1, true, by omega, by go_num, rfl, HGN, Lib.hid (Kit.below_drewN HB4.out _)⟩
                      case measure => simp [intOf]; omega
                  · obtain rfl : k = i := by omega
                    have HGN : Hid (GoodTo S U P n m l (k + 1) true) := Lib.hid ⟨fun _ => ⟨⟨HG1.out, HLN.out⟩, by rw [wantI, HWI.out, (HI.out.1 rfl).2]; simp [HZ.out]⟩, fun h => (nomatch h)⟩
                    have HBN : Hid (Below w1.heap.size w1 wr) := Lib.hid (HB2.out.trans (HB4.out.mono HB2.out.size))
                    clear HI
                    go_wp2_with fail
                    go_roundw
                    case rel => exact ⟨k + 1, true, by omega, by go_num, rfl, HGN, HBN⟩
                    case measure => simp [intOf]; omega
            · have HGN : Hid (GoodTo S U P n m l (i + 1) false) := Lib.hid ⟨fun h => (nomatch h), fun _ => want_no hlt (by simp [hz])⟩
              have z3 : ¬ P i ≥ 0 ∨ (P i ≥ 0 ∧ ¬ P i ≤ 1099511627776) := by omega
              clear hz
              rcases z3 with z1 | ⟨z1, z2⟩
              · go_wp2_with fail
                go_loopw [7, 9] (fun v u wr => v = .bool false ∧ u = .int .i64 0 ∧ Hid (Below w1.heap.size w1 wr)) (fun _ _ _ => 0)
                case atStart => exact ⟨rfl, rfl, HB2⟩
                case round =>
                  obtain ⟨rfl, rfl, HB5⟩ := hrel
                  by_cases hl0 : (0 : Int) < (i : Int)
                  · go_wp2_with fail
                    go_roundw
                    case rel => exact ⟨i + 1, false, by omega, by go_num, rfl, HGN, HB5⟩
                    case measure => simp [intOf]; omega
                  · go_wp2_with fail
                    go_roundw
                    case rel => exact ⟨i + 1, false, by omega, by go_num, rfl, HGN, HB5⟩
                    case measure => simp [intOf]; omega
              · go_wp2_with fail
                go_loopw [7, 9] (fun v u wr => v = .bool false ∧ u = .int .i64 0 ∧ Hid (Below w1.heap.size w1 wr)) (fun _ _ _ => 0)
                case atStart => exact ⟨rfl, rfl, HB2⟩
                case round =>
                  obtain ⟨rfl, rfl, HB5⟩ := hrel
                  by_cases hl0 : (0 : Int) < (i : Int)
                  · go_wp2_with fail
                    go_roundw
                    case rel => exact ⟨i + 1, false, by omega, by go_num, rfl, HGN, HB5⟩
                    case measure => simp [intOf]; omega
                  · go_wp2_with fail
                    go_roundw
                    case rel => exact ⟨i + 1, false, by omega, by go_num, rfl, HGN, HB5⟩
                    case measure => simp [intOf]; omega
          · obtain rfl : i = l := by omega
            have HF := Lib.hid (HFIN.out true HG.out)
            clear HG HFIN
            go_wp2_with (first
              | (go_at_call 14
                 have hal : Below wr.heap.size wr wr := Below.refl _ _
                 refine (sound_b S U P _ c _ c' _ c3 true HF.out (by omega) (by omega) A A' A3 _ HR.out HS.out HP.out).mono ?_
                 rintro e w3 ⟨rfl, hb⟩
                 have hh : Below wr.heap.size wr w3 := hal.trans (hb.mono hal.size)
                 replace HR := Lib.hid ((HR.out.below hh).more hh.size)
                 replace HS := Lib.hid ((HS.out.below hh).more hh.size)
                 replace HP := Lib.hid ((HP.out.below hh).more hh.size)
                 replace HB1 := Lib.hid (HB1.out.trans (hh.mono HB1.out.size))
                 clear hb hh hal)
              | (go_at_call 6
                 have hal : Below w3.heap.size w3 w3 := Below.refl _ _
                 refine (known28 _).mono ?_
                 rintro e w5 ⟨rfl, hb⟩
                 have hh : Below w3.heap.size w3 w5 := hal.trans (hb.mono hal.size)
                 replace HR := Lib.hid ((HR.out.below hh).more hh.size)
                 replace HS := Lib.hid ((HS.out.below hh).more hh.size)
                 replace HP := Lib.hid ((HP.out.below hh).more hh.size)
                 replace HB1 := Lib.hid (HB1.out.trans (hh.mono HB1.out.size))
                 clear hb hh hal))
            go_ret
            exact ⟨rfl, HB1.out⟩
    · have heq2 : ((l : Int) == (n : Int)) = false := by rw [heq]; simp [hln]
      have hln2 : decide (l = n) = false := by simp [hln]
      rw [hln2] at HST
      clear heq hln2
      go_wp2_with (first
        | (go_at_call 8
           have hal : Below w.heap.size w w := Below.refl _ _
           refine (may_b S n c m c' _ (by omega) HNO.out A A' _ HR.out).mono ?_
           rintro e w1 ⟨rfl, hb⟩
           have hh : Below w.heap.size w w1 := hal.trans (hb.mono hal.size)
           replace HR := Lib.hid ((HR.out.below hh).more hh.size)
           replace HS := Lib.hid ((HS.out.below hh).more hh.size)
           replace HP := Lib.hid ((HP.out.below hh).more hh.size)
           have HBW : Hid (Below w.heap.size w w1) := Lib.hid hh
           clear hb hh hal))
      have HF := Lib.hid (HST.out.2 rfl)
      have HR0 := HR
      go_loopw [7, 8] (fun v u wr => v = .bool false ∧ u = .int .i64 0 ∧ Hid (Below w1.heap.size w1 wr)) (fun _ _ _ => 0)
      case atStart => exact ⟨rfl, rfl, Lib.hid (Below.refl _ _)⟩
      case round =>
        obtain ⟨rfl, rfl, HB2⟩ := hrel
        have HB1 : Hid (Below w.heap.size w wr) := Lib.hid (HBW.out.trans (HB2.out.mono HBW.out.size))
        replace HR := Lib.hid ((HR.out.below HB2.out).more HB2.out.size)
        replace HS := Lib.hid ((HS.out.below HB2.out).more HB2.out.size)
        replace HP := Lib.hid ((HP.out.below HB2.out).more HB2.out.size)
        clear HR0 HST
        by_cases hl0 : (0 : Int) < (l : Int)
        · go_wp2_with (first
            | (go_at_call 14
               have hal : Below wr.heap.size wr wr := Below.refl _ _
               refine (sound_b S U P _ c _ c' _ c3 false HF.out (by omega) (by omega) A A' A3 _ HR.out HS.out HP.out).mono ?_
               rintro e w3 ⟨rfl, hb⟩
               have hh : Below wr.heap.size wr w3 := hal.trans (hb.mono hal.size)
               replace HR := Lib.hid ((HR.out.below hh).more hh.size)
               replace HS := Lib.hid ((HS.out.below hh).more hh.size)
               replace HP := Lib.hid ((HP.out.below hh).more hh.size)
               replace HB1 := Lib.hid (HB1.out.trans (hh.mono HB1.out.size))
               clear hb hh hal)
            | (go_at_call 6
               have hal : Below w3.heap.size w3 w3 := Below.refl _ _
               refine (known28 _).mono ?_
               rintro e w5 ⟨rfl, hb⟩
               have hh : Below w3.heap.size w3 w5 := hal.trans (hb.mono hal.size)
               replace HR := Lib.hid ((HR.out.below hh).more hh.size)
               replace HS := Lib.hid ((HS.out.below hh).more hh.size)
               replace HP := Lib.hid ((HP.out.below hh).more hh.size)
               replace HB1 := Lib.hid (HB1.out.trans (hh.mono HB1.out.size))
               clear hb hh hal))
          go_ret
          exact ⟨rfl, HB1.out⟩
        · go_wp2_with (first
            | (go_at_call 14
               have hal : Below wr.heap.size wr wr := Below.refl _ _
               refine (sound_b S U P _ c _ c' _ c3 false HF.out (by omega) (by omega) A A' A3 _ HR.out HS.out HP.out).mono ?_
               rintro e w3 ⟨rfl, hb⟩
               have hh : Below wr.heap.size wr w3 := hal.trans (hb.mono hal.size)
               replace HR := Lib.hid ((HR.out.below hh).more hh.size)
               replace HS := Lib.hid ((HS.out.below hh).more hh.size)
               replace HP := Lib.hid ((HP.out.below hh).more hh.size)
               replace HB1 := Lib.hid (HB1.out.trans (hh.mono HB1.out.size))
               clear hb hh hal)
            | (go_at_call 6
               have hal : Below w3.heap.size w3 w3 := Below.refl _ _
               refine (known28 _).mono ?_
               rintro e w5 ⟨rfl, hb⟩
               have hh : Below w3.heap.size w3 w5 := hal.trans (hb.mono hal.size)
               replace HR := Lib.hid ((HR.out.below hh).more hh.size)
               replace HS := Lib.hid ((HS.out.below hh).more hh.size)
               replace HP := Lib.hid ((HP.out.below hh).more hh.size)
               replace HB1 := Lib.hid (HB1.out.trans (hh.mono HB1.out.size))
               clear hb hh hal))
          go_ret
          exact ⟨rfl, HB1.out⟩
theorem walk {w : World} (A : Option Addr) (zs : List Int) (c : Nat) (hc0 : zs.length ≤ c) (hm0 : c ≤ maxLen) (hw0 : ∀ n ∈ zs, (Lit.int .i64 n).wf = true) (hr0 : Kit.Rd w w.heap.size A (zs.map (.int .i64))) (A1 : Option Addr) (ys : List Int) (c1 : Nat) (hc1 : ys.length ≤ c1) (hm1 : c1 ≤ maxLen) (hw1 : ∀ n ∈ ys, (Lit.int .i64 n).wf = true) (hr1 : Kit.Rd w w.heap.size A1 (ys.map (.int .i64))) (A2 : Option Addr) (xs : List Int) (c2 : Nat) (hc2 : xs.length ≤ c2) (hm2 : c2 ≤ maxLen) (hw2 : ∀ n ∈ xs, (Lit.int .i64 n).wf = true) (hr2 : Kit.Rd w w.heap.size A2 (xs.map (.int .i64))) :
    Calls Try.prog 4 #[.slice A zs.length c, .slice A1 ys.length c1, .slice A2 xs.length c2] w fun e w' => e = .returned (.bool true) ∧ Below w.heap.size w w' := by
  by_cases h0 : zs.length ≤ 24
  · by_cases h1 : ys.length ≤ 24
    · by_cases h2 : xs.length ≤ 24
      · rw [← row_self] at hr0 hr1 hr2
        exact walk_all _ _ _ A A1 A2 _ c _ c1 _ c2 h0 h1 h2 hr0 hr1 hr2
      · exact walk_l A A1 _ c _ c1 A2 _ c2 h0 h1 h2
    · exact walk_m A A1 _ c _ c1 A2 _ c2 h0 h1
  · exact walk_n A A1 _ c _ c1 A2 _ c2 h0
/-! ### the frame: written by program -/
theorem own : ownKnob Try.prog.godebug = none := by kernel_rfl
theorem laid : laidOutB Try.prog = true := by kernel_rfl
theorem contract {H : Type} {enc : TypeId × Value → H} {W : World} {base : Nat} {args : Array Value} {ds gs : List (DataW H)} {before : List MemPlace}
    (hval0 : ∀ (j : Nat) t v, Try.f4.params[j]? = some t → args[j]? = some v → Value.okWide Try.prog W .any base t v)
    (hW : DataW.Whole enc Try.prog Try.f4.params.toList Rows.arenaSoundSpec.vars false W args.toList ds gs before) :
    Calls Try.prog 4 args W fun e W' => e = .returned (.bool true) ∧ Below W.heap.size W W' := by
  have hval : ∀ (j : Nat) t v, Try.f4.params[j]? = some t → args[j]? = some v → Value.okWide Try.prog W .any base t v := hval0
  obtain ⟨p, q, hA0, hV, rfl, hfz, hnd⟩ := hW
  have hA : DataW.TrodAll enc Try.prog W 0 (fun _ => true) true Try.f4.params.toList args.toList ds p := hA0
  rw [Try.params4] at hA hval
  obtain ⟨v0, vs0, d0, ds0, p0, q0, hargs, rfl, rfl, h0, r0⟩ := trodAll_cons hA
  obtain ⟨v1, vs1, d1, ds1, p1, q1, rfl, rfl, rfl, h1, r1⟩ := trodAll_cons r0
  obtain ⟨v2, vs2, d2, ds2, p2, q2, rfl, rfl, rfl, h2, r2⟩ := trodAll_cons r1
  obtain ⟨rfl, rfl, rfl⟩ := trodAll_nil r2
  obtain rfl : args = #[v0, v1, v2] := by cases args; simp_all
  clear hA0 hval0
  obtain ⟨A0, z0, c0, rfl, hc0, hm0, hw0, hr0⟩ := Kit.open_islice Try.underlying22 Try.underlying3 (by kernel_rfl) (hval 0 22 v0 rfl rfl) h0
  obtain ⟨A1, z1, c1, rfl, hc1, hm1, hw1, hr1⟩ := Kit.open_islice Try.underlying22 Try.underlying3 (by kernel_rfl) (hval 1 22 v1 rfl rfl) h1
  obtain ⟨A2, z2, c2, rfl, hc2, hm2, hw2, hr2⟩ := Kit.open_islice Try.underlying22 Try.underlying3 (by kernel_rfl) (hval 2 22 v2 rfl rfl) h2
  exact walk (w := W) A0 z0 c0 hc0 hm0 hw0 hr0 A1 z1 c1 hc1 hm1 hw1 hr1 A2 z2 c2 hc2 hm2 hw2 hr2
theorem fnIs {H : Type} : ∀ ds : List (DataW H), ds.length = Try.f4.params.toList.length → Rows.arenaSoundSpec.fn H ds = { results := [.lit (.bool true)], args := ds } := by
  intro ds h
  rw [Try.params4] at h
  match ds, h with
  | [d1, d2, d3], _ => rfl
set_option maxRecDepth 100000 in
theorem lifted (os : Os) (started : os.Started) (H : Type) (enc : TypeId × Value → H) :
    ReturnsInHanded {} Try.checked os 4 .any (Rows.arenaSoundSpec.pre6 enc Try.prog Try.f4 Rows.arenaSoundRow.domain false) (Rows.arenaSoundSpec.post enc Try.prog Try.f4 false true false false) := by
  refine returnsInHanded_of_change (C := Try.checked) own started (by kernel_rfl) Try.func4
    (ChangeSpec.witness6 (enc := enc) (C := Try.checked) false ⟨#[], #[.slice none 0 0, .slice none 0 0, .slice none 0 0], []⟩ 8 (by kernel_rfl) (by kernel_rfl) (by kernel_rfl) (by kernel_rfl)) ?_
  intro W base args ds gs before hval hW _ _
  refine (contract hval hW).mono fun e W' ⟨he, hg⟩ => ?_
  subst he
  exact ⟨_, rfl, Kit.law_post (tb := 4) laid (by kernel_rfl) rfl (by kernel_rfl) Try.underlying4 fnIs hW hg⟩
theorem over : Rows.arenaSoundRow.holds Try.pinned (OpenSpec.ofChange Rows.arenaSoundSpec) :=
  OpenClaim.holds_of_wide 4 Try.f4 rfl rfl rfl rfl rfl rfl rfl ⟨rfl, rfl, rfl, rfl, rfl⟩ rfl rfl rfl rfl rfl (by kernel_rfl) Try.func4 (by kernel_rfl)
    (of_decide_eq_true (by kernel_rfl)) (by unfold Func.isWrapper; first | (rw [if_pos (by decide +kernel)]; kernel_rfl) | (rw [if_neg (by decide +kernel)]; exact ⟨rfl, rfl⟩))
    (fun os started H enc _ => lifted os started H enc)
/-- the statement. -/
theorem proved : Rows.ArenaSoundSaid :=
  over
end Go.Proofs.Ytplmcmjfgocdkaa.lawArenaSound
