/- Layer 28 (arena), the code: are places sound? Written by gen_arena1.py. -/
import Derived.Test.YtplmcmjfgocdkaaTk
import Derived.Test.YtplmcmjfgocdkaaArenaPlc
import Derived.Deep.CutRange
namespace Go.Proofs.Ytplmcmjfgocdkaa.CArena
open Go Go.ChangeShapes Go.WideShapes Go.ChangeAt Go.RowKit Go.Deep
open Plain
set_option linter.unusedVariables false

/-- no two of the first n meet. -/
def sndN (S U P : Nat → Int) : Nat → Bool
  | 0 => true
  | i + 1 => sndN S U P i && fitN S U P i (P i) i
theorem sndN_iff {S U P : Nat → Int} {n : Nat} : sndN S U P n = true ↔ ∀ i, i < n → fitN S U P i (P i) i = true := by
  induction n with
  | zero => simp [sndN]
  | succ n ih =>
    simp only [sndN, Bool.and_eq_true, ih]
    constructor
    · intro ⟨h1, h2⟩ k hk
      rcases Nat.lt_succ_iff_lt_or_eq.1 hk with h | rfl
      · exact h1 k h
      · exact h2
    · intro h
      exact ⟨fun k hk => h k (by omega), h n (by omega)⟩
theorem sndN_no {S U P : Nat → Int} {n i k : Nat} (hi : i < n) (hk : k < i) (h : hitB S U P i (P i) k = true) : sndN S U P n = false := by
  cases e : sndN S U P n with
  | false => rfl
  | true => have := fitN_iff.1 (sndN_iff.1 e i hi) k hk; rw [h] at this; cases this
/-- are there places for all, within limits, such that no two meet? -/
def soundB (S U P : Nat → Int) (n m l : Nat) : Bool := rightB S n m && decide (l = n) && inN P 1099511627776 l && sndN S U P l
set_option maxRecDepth 100000 in
set_option maxHeartbeats 4000000 in
theorem sound_no1 (S U P : Nat → Int) (n c m c' l c3 : Nat) (hn : n ≤ 900) (hl : l ≤ 900) (hno : rightB S n m = false) (A A' A3 : Option Addr) (w : World) (hr : Kit.Rd w w.heap.size A (rowV S n)) :
    Calls Try.prog 14 #[.slice A n c, .slice A' m c', .slice A3 l c3] w fun e w' => e = .returned (.bool (soundB S U P n m l)) ∧ Below w.heap.size w w' := by
  have C := right_to S n c m c' (by omega) A A' w hr
  rw [hno] at C
  have HC := Lib.hid C
  have e : soundB S U P n m l = false := by simp [soundB, hno]
  rw [e]
  clear C hr hno e
  go_enter Try.func14, Try.ntmps14
  go_wp2_with (go_at_call 15; (refine HC.out.mono ?_); rintro e w1 ⟨rfl, rfl⟩)
  go_ret
  exact ⟨rfl, Below.refl _ _⟩
set_option maxRecDepth 100000 in
set_option maxHeartbeats 4000000 in
theorem sound_no2 (S U P : Nat → Int) (n c m c' l c3 : Nat) (hn : n ≤ 900) (hl : l ≤ 900) (hyes : rightB S n m = true) (hne : ¬ l = n) (A A' A3 : Option Addr) (w : World) (hr : Kit.Rd w w.heap.size A (rowV S n)) :
    Calls Try.prog 14 #[.slice A n c, .slice A' m c', .slice A3 l c3] w fun e w' => e = .returned (.bool (soundB S U P n m l)) ∧ Below w.heap.size w w' := by
  have C := right_to S n c m c' (by omega) A A' w hr
  rw [hyes] at C
  have HC := Lib.hid C
  have e : soundB S U P n m l = false := by simp [soundB, hne]
  have h1 : ((l : Int) != (n : Int)) = true := by simp; omega
  have h2 : ¬ (l : Int) = (n : Int) := by omega
  have h3 : ((l : Int) == (n : Int)) = false := by simp; omega
  rw [e]
  clear C hr hyes e hne
  go_enter Try.func14, Try.ntmps14
  go_wp2_with (go_at_call 15; (refine HC.out.mono ?_); rintro e w1 ⟨rfl, rfl⟩)
  go_ret
  exact ⟨rfl, Below.refl _ _⟩
set_option maxRecDepth 100000 in
set_option maxHeartbeats 4000000 in
theorem sound_no3 (S U P : Nat → Int) (n c m c' c3 : Nat) (hn : n ≤ 900) (hyes : rightB S n m = true) (hin : inN P 1099511627776 n = false) (A A' A3 : Option Addr) (w : World) (hr : Kit.Rd w w.heap.size A (rowV S n)) (hr3 : Kit.Rd w w.heap.size A3 (rowV P n)) :
    Calls Try.prog 14 #[.slice A n c, .slice A' m c', .slice A3 n c3] w fun e w' => e = .returned (.bool (soundB S U P n m n)) ∧ Below w.heap.size w w' := by
  have C := right_to S n c m c' (by omega) A A' w hr
  rw [hyes] at C
  have HC := Lib.hid C
  have C2 := within_to P 1099511627776 n c3 (by omega) A3 w hr3
  rw [hin] at C2
  have HC2 := Lib.hid C2
  have e : soundB S U P n m n = false := by simp [soundB, hin]
  rw [e]
  clear C C2 hr hyes e hin hr3
  go_enter Try.func14, Try.ntmps14
  go_wp2_with (first
    | (go_at_call 15; (refine HC.out.mono ?_); rintro e w1 ⟨rfl, rfl⟩)
    | (go_at_call 21; (refine HC2.out.mono ?_); rintro e w1 ⟨rfl, rfl⟩))
  go_ret
  exact ⟨rfl, Below.refl _ _⟩
set_option maxRecDepth 100000 in
set_option maxHeartbeats 8000000 in
theorem sound_yes (S U P : Nat → Int) (n c c' c3 : Nat) (hn : n ≤ 900) (hyes : ∀ k, k < n → 0 ≤ S k ∧ S k ≤ 1048576) (hin : ∀ k, k < n → 0 ≤ P k ∧ P k ≤ 1099511627776) (A A' A3 : Option Addr) (w : World) (hr : Kit.Rd w w.heap.size A (rowV S n)) (hr' : Kit.Rd w w.heap.size A' (rowV U n)) (hr3 : Kit.Rd w w.heap.size A3 (rowV P n)) :
    Calls Try.prog 14 #[.slice A n c, .slice A' n c', .slice A3 n c3] w fun e w' => e = .returned (.bool (soundB S U P n n n)) ∧ Below w.heap.size w w' := by
  have C := right_to S n c n c' (by omega) A A' w hr
  rw [(rightB_iff (by omega)).2 ⟨rfl, hyes⟩] at C
  have HC := Lib.hid C
  have C2 := within_to P 1099511627776 n c3 (by omega) A3 w hr3
  rw [inN_iff.2 hin] at C2
  have HC2 := Lib.hid C2
  have HR := Lib.hid hr
  have HR' := Lib.hid hr'
  have HR3 := Lib.hid hr3
  have HY := Lib.hid hyes
  have HI := Lib.hid hin
  have e : soundB S U P n n n = sndN S U P n := by simp [soundB, (rightB_iff (n := n) (m := n) (by omega)).2 ⟨rfl, hyes⟩, inN_iff.2 hin]
  rw [e]
  have HB0 := Lib.hid (Below.refl w.heap.size w)
  clear C C2 hr hr' hr3 hyes hin e
  go_enter Try.func14, Try.ntmps14
  go_wp2_with (first
    | (go_at_call 15; (refine HC.out.mono ?_); rintro e w1 ⟨rfl, rfl⟩)
    | (go_at_call 21; (refine HC2.out.mono ?_); rintro e w1 ⟨rfl, rfl⟩))
  clear HC HC2
  go_loopw [27] (fun u wr => ∃ i : Nat, i ≤ n ∧ u = .int .i64 i ∧ Hid (sndN S U P i = true) ∧ Hid (Below w.heap.size w wr)) (fun u _ => n - (intOf u).toNat)
  case atStart => exact ⟨0, Nat.zero_le _, rfl, Lib.hid rfl, HB0⟩
  case round =>
    obtain ⟨i, hi, rfl, hsn, HB1⟩ := hrel
    clear HB0
    by_cases hlt : i < n
    · have i1 : (i : Int) < (n : Int) := by omega
      obtain ⟨wo, hwo⟩ : ∃ wo, wo = wr := ⟨_, rfl⟩
      go_wp2_with fail
      go_loopw [31] (fun u wr => ∃ j : Nat, j ≤ i ∧ u = .int .i64 j ∧ Hid (fitN S U P i (P i) j = true) ∧ Hid (Below w.heap.size w wr)) (fun u _ => i - (intOf u).toNat)
      case atStart => exact ⟨0, Nat.zero_le _, rfl, Lib.hid rfl, HB1⟩
      case round =>
        obtain ⟨j, hj, rfl, hft, HB2⟩ := hrel
        clear HB1 hwo
        by_cases hltj : j < i
        · obtain ⟨b1, o1, rfl, x1, h1⟩ := rd_at HR.out (by omega)
          obtain ⟨b3, o3, rfl, x3, h3⟩ := rd_at HR3.out (by omega)
          have HSJ : Hid (∀ wS, Below w.heap.size w wS → wS.cell? ⟨b1, o1 + j, none⟩ = some (.int .i64 (S j))) := Lib.hid (fun wS hb => (hb.cell (p := ⟨b1, o1 + j, none⟩) x1).trans (h1 j (by omega)))
          have HSI : Hid (∀ wS, Below w.heap.size w wS → wS.cell? ⟨b1, o1 + i, none⟩ = some (.int .i64 (S i))) := Lib.hid (fun wS hb => (hb.cell (p := ⟨b1, o1 + i, none⟩) x1).trans (h1 i (by omega)))
          have HPJ : Hid (∀ wS, Below w.heap.size w wS → wS.cell? ⟨b3, o3 + j, none⟩ = some (.int .i64 (P j))) := Lib.hid (fun wS hb => (hb.cell (p := ⟨b3, o3 + j, none⟩) x3).trans (h3 j (by omega)))
          have HPI : Hid (∀ wS, Below w.heap.size w wS → wS.cell? ⟨b3, o3 + i, none⟩ = some (.int .i64 (P i))) := Lib.hid (fun wS hb => (hb.cell (p := ⟨b3, o3 + i, none⟩) x3).trans (h3 i (by omega)))
          have j0 : (0 : Int) ≤ (j : Int) := by omega
          have j1 : (j : Int) < (n : Int) := by omega
          have j2 : (j : Int) < (i : Int) := by omega
          have i0 : (0 : Int) ≤ (i : Int) := by omega
          obtain ⟨a1, a2⟩ := HY.out j (by omega)
          obtain ⟨a3, a4⟩ := HY.out i hlt
          obtain ⟨a5, a6⟩ := HI.out j (by omega)
          obtain ⟨a7, a8⟩ := HI.out i hlt
          have e1 : IntKind.i64.wrap (P j + S j) = P j + S j := IntWalk.i64_in _ (by omega)
          have e2 : IntKind.i64.wrap (P i + S i) = P i + S i := IntWalk.i64_in _ (by omega)
          have hhit := hit_meet (S := S) (U := U) (P := P) (i := i) (k := j) (p := P i) a3 a1
          have hlv := live_occ (U := U) hltj
          have hCL := fun (wx : World) (hb : Below w.heap.size w wx) => live_to U j n c' (i : Int) i rfl (by omega) A' wx (HR'.out.below hb)
          have hCM := fun wx : World => meet_to (P j) (P j + S j) (P i) (P i + S i) wx
          have hno : hitB S U P i (P i) j = true → sndN S U P n = false := fun h => sndN_no hlt hltj h
          have hok : hitB S U P i (P i) j = false → fitN S U P i (P i) (j + 1) = true := fun h => by rw [fitN, hft.out, h]; rfl
          clear h1 h3 hft
          cases hv : liveZ U j i with
          | false =>
            have hz : hitB S U P i (P i) j = false := by rw [hhit, ← hlv, hv]; rfl
            have HOK := Lib.hid (hok hz)
            simp only [hv] at hCL
            have CL := Lib.hid hCL
            clear hhit hlv hCL hCM hno hok hv hz x1 x3
            go_upto_region 9 with fail
            generalize wr = W0 at HB2 ⊢
            refine wp_region_held_drew (S := fun wx => Below w.heap.size w wx) (by kernel_rfl) HB2.out.drew (fun hHeld => ?_)
            generalize W0.drew = W1 at hHeld ⊢
            clear HB2
            refine Tk.x 0 rfl ?_
            try simp only [Tk.put]
            refine Tk.x 1 rfl ?_
            try simp only [Tk.put]
            refine Tk.x 2 rfl ?_
            try simp only [Tk.put]
            refine Tk.s 3 rfl (fun K hK => ?_)
            go_simp
            go_at_call 18
            refine (CL.out _ hHeld).mono ?_
            rintro e W2 ⟨rfl, hW2⟩
            subst hW2
            dsimp only
            refine hK.out _ _ ?_ (fun hHeld => ?_)
            · exact hHeld
            clear hK K
            try simp only [Tk.put]
            refine Tk.x 4 rfl ?_
            try simp only [Tk.put]
            refine Tk.t 5 (v := undef) rfl (Or.inr ⟨by rfl, rfl⟩) (by assumption) ?_
            try simp only [Tk.put]
            refine Tk.t 6 (v := undef) rfl (Or.inr ⟨by rfl, rfl⟩) (by assumption) ?_
            try simp only [Tk.put]
            refine Tk.t 7 (v := undef) rfl (Or.inr ⟨by rfl, rfl⟩) (by assumption) ?_
            try simp only [Tk.put]
            refine Tk.t 8 (v := undef) rfl (Or.inr ⟨by rfl, rfl⟩) (by assumption) ?_
            try simp only [Tk.put]
            refine Tk.t 9 (v := undef) rfl (Or.inr ⟨by rfl, rfl⟩) (by assumption) ?_
            try simp only [Tk.put]
            refine Tk.t 10 (v := undef) rfl (Or.inr ⟨by rfl, rfl⟩) (by assumption) ?_
            try simp only [Tk.put]
            refine Tk.t 11 (v := undef) rfl (Or.inr ⟨by rfl, rfl⟩) (by assumption) ?_
            try simp only [Tk.put]
            refine Tk.t 12 (v := undef) rfl (Or.inr ⟨by rfl, rfl⟩) (by assumption) ?_
            try simp only [Tk.put]
            refine Tk.t 13 (v := undef) rfl (Or.inr ⟨by rfl, rfl⟩) (by assumption) ?_
            try simp only [Tk.put]
            refine Tk.t 14 (v := undef) rfl (Or.inr ⟨by rfl, rfl⟩) (by assumption) ?_
            try simp only [Tk.put]
            refine Tk.t 15 (v := undef) rfl (Or.inr ⟨by rfl, rfl⟩) (by assumption) ?_
            try simp only [Tk.put]
            refine Tk.t 16 (v := undef) rfl (Or.inr ⟨by rfl, rfl⟩) (by assumption) ?_
            try simp only [Tk.put]
            refine Tk.t 17 (v := undef) rfl (Or.inr ⟨by rfl, rfl⟩) (by assumption) ?_
            try simp only [Tk.put]
            refine Tk.t 18 (v := undef) rfl (Or.inr ⟨by rfl, rfl⟩) (by assumption) ?_
            try simp only [Tk.put]
            refine Tk.t 19 (v := undef) rfl (Or.inr ⟨by rfl, rfl⟩) (by assumption) ?_
            try simp only [Tk.put]
            refine Tk.t 20 (v := undef) rfl (Or.inr ⟨by rfl, rfl⟩) (by assumption) ?_
            try simp only [Tk.put]
            refine Tk.t 21 (v := undef) rfl (Or.inr ⟨by rfl, rfl⟩) (by assumption) ?_
            try simp only [Tk.put]
            refine Tk.t 22 (v := undef) rfl (Or.inr ⟨by rfl, rfl⟩) (by assumption) ?_
            try simp only [Tk.put]
            refine Tk.t 23 (v := undef) rfl (Or.inr ⟨by rfl, rfl⟩) (by assumption) ?_
            try simp only [Tk.put]
            refine Tk.t 24 (v := undef) rfl (Or.inr ⟨by rfl, rfl⟩) (by assumption) ?_
            try simp only [Tk.put]
            refine Tk.t 25 (v := undef) rfl (Or.inr ⟨by rfl, rfl⟩) (by assumption) ?_
            try simp only [Tk.put]
            refine Tk.t 26 (v := undef) rfl (Or.inr ⟨by rfl, rfl⟩) (by assumption) ?_
            try simp only [Tk.put]
            refine Tk.t 27 (v := undef) rfl (Or.inr ⟨by rfl, rfl⟩) (by assumption) ?_
            try simp only [Tk.put]
            refine Tk.t 28 (v := undef) rfl (Or.inr ⟨by rfl, rfl⟩) (by assumption) ?_
            try simp only [Tk.put]
            refine Tk.t 29 (v := undef) rfl (Or.inr ⟨by rfl, rfl⟩) (by assumption) ?_
            try simp only [Tk.put]
            refine Tk.t 30 (v := undef) rfl (Or.inr ⟨by rfl, rfl⟩) (by assumption) ?_
            try simp only [Tk.put]
            refine Tk.t 31 (v := undef) rfl (Or.inr ⟨by rfl, rfl⟩) (by assumption) ?_
            try simp only [Tk.put]
            refine Tk.t 32 (v := undef) rfl (Or.inr ⟨by rfl, rfl⟩) (by assumption) ?_
            try simp only [Tk.put]
            refine Tk.t 33 (v := undef) rfl (Or.inr ⟨by rfl, rfl⟩) (by assumption) ?_
            try simp only [Tk.put]
            refine Tk.x 34 rfl ?_
            try simp only [Tk.put]
            refine wpAnyH_done (by kernel_rfl) ?_ _
            go_wp2_with fail
            go_roundw
            case rel => exact ⟨j + 1, by omega, by go_num, HOK, Lib.hid hHeld⟩
            case measure => simp [intOf]; omega
          | true =>
            simp only [hv] at hCL
            have CL := Lib.hid hCL
            cases hm : meetZ (P j) (P j + S j) (P i) (P i + S i) with
            | false =>
              have hz : hitB S U P i (P i) j = false := by rw [hhit, hm, Bool.and_false]
              have HOK := Lib.hid (hok hz)
              simp only [hm] at hCM
              have CM := Lib.hid hCM
              clear hhit hlv hCL hCM hno hok hv hz hm x1 x3
              go_upto_region 9 with fail
              generalize wr = W0 at HB2 ⊢
              refine wp_region_held_drew (S := fun wx => Below w.heap.size w wx) (by kernel_rfl) HB2.out.drew (fun hHeld => ?_)
              generalize W0.drew = W1 at hHeld ⊢
              clear HB2
              refine Tk.x 0 rfl ?_
              try simp only [Tk.put]
              refine Tk.x 1 rfl ?_
              try simp only [Tk.put]
              refine Tk.x 2 rfl ?_
              try simp only [Tk.put]
              refine Tk.s 3 rfl (fun K hK => ?_)
              go_simp
              go_at_call 18
              refine (CL.out _ hHeld).mono ?_
              rintro e W2 ⟨rfl, hW2⟩
              subst hW2
              dsimp only
              refine hK.out _ _ ?_ (fun hHeld => ?_)
              · exact hHeld
              clear hK K
              try simp only [Tk.put]
              refine Tk.x 4 rfl ?_
              try simp only [Tk.put]
              refine Tk.x 5 rfl ?_
              try simp only [Tk.put]
              refine Tk.x 6 rfl ?_
              try simp only [Tk.put]
              refine Tk.x 7 rfl ?_
              try simp only [Tk.put]
              refine Tk.y 8 (v := ?_) rfl ?_ ?_
              rotate_left
              · intro wS hSw
                have q0 := HPJ.out wS hSw
                first | (go_simp; done) | (go_simp; with_reducible rfl)
              try simp only [Tk.put]
              refine Tk.x 9 rfl ?_
              try simp only [Tk.put]
              refine Tk.x 10 rfl ?_
              try simp only [Tk.put]
              refine Tk.x 11 rfl ?_
              try simp only [Tk.put]
              refine Tk.y 12 (v := ?_) rfl ?_ ?_
              rotate_left
              · intro wS hSw
                have q0 := HPJ.out wS hSw
                first | (go_simp; done) | (go_simp; with_reducible rfl)
              try simp only [Tk.put]
              refine Tk.x 13 rfl ?_
              try simp only [Tk.put]
              refine Tk.x 14 rfl ?_
              try simp only [Tk.put]
              refine Tk.x 15 rfl ?_
              try simp only [Tk.put]
              refine Tk.y 16 (v := ?_) rfl ?_ ?_
              rotate_left
              · intro wS hSw
                have q0 := HSJ.out wS hSw
                first | (go_simp; done) | (go_simp; with_reducible rfl)
              try simp only [Tk.put]
              refine Tk.x 17 rfl ?_
              try simp only [Tk.put]
              refine Tk.x 18 rfl ?_
              try simp only [Tk.put]
              refine Tk.x 19 rfl ?_
              try simp only [Tk.put]
              refine Tk.x 20 rfl ?_
              try simp only [Tk.put]
              refine Tk.x 21 rfl ?_
              try simp only [Tk.put]
              refine Tk.y 22 (v := ?_) rfl ?_ ?_
              rotate_left
              · intro wS hSw
                have q0 := HPI.out wS hSw
                first | (go_simp; done) | (go_simp; with_reducible rfl)
              try simp only [Tk.put]
              refine Tk.x 23 rfl ?_
              try simp only [Tk.put]
              refine Tk.x 24 rfl ?_
              try simp only [Tk.put]
              refine Tk.x 25 rfl ?_
              try simp only [Tk.put]
              refine Tk.y 26 (v := ?_) rfl ?_ ?_
              rotate_left
              · intro wS hSw
                have q0 := HPI.out wS hSw
                first | (go_simp; done) | (go_simp; with_reducible rfl)
              try simp only [Tk.put]
              refine Tk.x 27 rfl ?_
              try simp only [Tk.put]
              refine Tk.x 28 rfl ?_
              try simp only [Tk.put]
              refine Tk.x 29 rfl ?_
              try simp only [Tk.put]
              refine Tk.y 30 (v := ?_) rfl ?_ ?_
              rotate_left
              · intro wS hSw
                have q0 := HSI.out wS hSw
                first | (go_simp; done) | (go_simp; with_reducible rfl)
              try simp only [Tk.put]
              refine Tk.x 31 rfl ?_
              try simp only [Tk.put]
              refine Tk.x 32 rfl ?_
              try simp only [Tk.put]
              refine Tk.s 33 rfl (fun K hK => ?_)
              go_simp
              go_at_call 22
              refine (CM.out _).mono ?_
              rintro e W3 ⟨rfl, hb3⟩
              have hS3 : Below w.heap.size w W3 := hHeld.trans (hb3.mono hHeld.size)
              clear hb3
              dsimp only
              refine hK.out _ _ ?_ (fun hHeld => ?_)
              · exact hS3
              clear hK K
              try simp only [Tk.put]
              refine Tk.x 34 rfl ?_
              try simp only [Tk.put]
              refine wpAnyH_done (by kernel_rfl) ?_ _
              go_wp2_with fail
              go_roundw
              case rel => exact ⟨j + 1, by omega, by go_num, HOK, Lib.hid hHeld⟩
              case measure => simp [intOf]; omega
            | true =>
              have hz : hitB S U P i (P i) j = true := by rw [hhit, hm, ← hlv, hv]; rfl
              have HNO := Lib.hid (hno hz)
              simp only [hm] at hCM
              have CM := Lib.hid hCM
              clear hhit hlv hCL hCM hno hok hv hz hm x1 x3
              go_upto_region 9 with fail
              generalize wr = W0 at HB2 ⊢
              refine wp_region_held_drew (S := fun wx => Below w.heap.size w wx) (by kernel_rfl) HB2.out.drew (fun hHeld => ?_)
              generalize W0.drew = W1 at hHeld ⊢
              clear HB2
              refine Tk.x 0 rfl ?_
              try simp only [Tk.put]
              refine Tk.x 1 rfl ?_
              try simp only [Tk.put]
              refine Tk.x 2 rfl ?_
              try simp only [Tk.put]
              refine Tk.s 3 rfl (fun K hK => ?_)
              go_simp
              go_at_call 18
              refine (CL.out _ hHeld).mono ?_
              rintro e W2 ⟨rfl, hW2⟩
              subst hW2
              dsimp only
              refine hK.out _ _ ?_ (fun hHeld => ?_)
              · exact hHeld
              clear hK K
              try simp only [Tk.put]
              refine Tk.x 4 rfl ?_
              try simp only [Tk.put]
              refine Tk.x 5 rfl ?_
              try simp only [Tk.put]
              refine Tk.x 6 rfl ?_
              try simp only [Tk.put]
              refine Tk.x 7 rfl ?_
              try simp only [Tk.put]
              refine Tk.y 8 (v := ?_) rfl ?_ ?_
              rotate_left
              · intro wS hSw
                have q0 := HPJ.out wS hSw
                first | (go_simp; done) | (go_simp; with_reducible rfl)
              try simp only [Tk.put]
              refine Tk.x 9 rfl ?_
              try simp only [Tk.put]
              refine Tk.x 10 rfl ?_
              try simp only [Tk.put]
              refine Tk.x 11 rfl ?_
              try simp only [Tk.put]
              refine Tk.y 12 (v := ?_) rfl ?_ ?_
              rotate_left
              · intro wS hSw
                have q0 := HPJ.out wS hSw
                first | (go_simp; done) | (go_simp; with_reducible rfl)
              try simp only [Tk.put]
              refine Tk.x 13 rfl ?_
              try simp only [Tk.put]
              refine Tk.x 14 rfl ?_
              try simp only [Tk.put]
              refine Tk.x 15 rfl ?_
              try simp only [Tk.put]
              refine Tk.y 16 (v := ?_) rfl ?_ ?_
              rotate_left
              · intro wS hSw
                have q0 := HSJ.out wS hSw
                first | (go_simp; done) | (go_simp; with_reducible rfl)
              try simp only [Tk.put]
              refine Tk.x 17 rfl ?_
              try simp only [Tk.put]
              refine Tk.x 18 rfl ?_
              try simp only [Tk.put]
              refine Tk.x 19 rfl ?_
              try simp only [Tk.put]
              refine Tk.x 20 rfl ?_
              try simp only [Tk.put]
              refine Tk.x 21 rfl ?_
              try simp only [Tk.put]
              refine Tk.y 22 (v := ?_) rfl ?_ ?_
              rotate_left
              · intro wS hSw
                have q0 := HPI.out wS hSw
                first | (go_simp; done) | (go_simp; with_reducible rfl)
              try simp only [Tk.put]
              refine Tk.x 23 rfl ?_
              try simp only [Tk.put]
              refine Tk.x 24 rfl ?_
              try simp only [Tk.put]
              refine Tk.x 25 rfl ?_
              try simp only [Tk.put]
              refine Tk.y 26 (v := ?_) rfl ?_ ?_
              rotate_left
              · intro wS hSw
                have q0 := HPI.out wS hSw
                first | (go_simp; done) | (go_simp; with_reducible rfl)
              try simp only [Tk.put]
              refine Tk.x 27 rfl ?_
              try simp only [Tk.put]
              refine Tk.x 28 rfl ?_
              try simp only [Tk.put]
              refine Tk.x 29 rfl ?_
              try simp only [Tk.put]
              refine Tk.y 30 (v := ?_) rfl ?_ ?_
              rotate_left
              · intro wS hSw
                have q0 := HSI.out wS hSw
                first | (go_simp; done) | (go_simp; with_reducible rfl)
              try simp only [Tk.put]
              refine Tk.x 31 rfl ?_
              try simp only [Tk.put]
              refine Tk.x 32 rfl ?_
              try simp only [Tk.put]
              refine Tk.s 33 rfl (fun K hK => ?_)
              go_simp
              go_at_call 22
              refine (CM.out _).mono ?_
              rintro e W3 ⟨rfl, hb3⟩
              have hS3 : Below w.heap.size w W3 := hHeld.trans (hb3.mono hHeld.size)
              clear hb3
              dsimp only
              refine hK.out _ _ ?_ (fun hHeld => ?_)
              · exact hS3
              clear hK K
              try simp only [Tk.put]
              refine Tk.x 34 rfl ?_
              try simp only [Tk.put]
              refine wpAnyH_done (by kernel_rfl) ?_ _
              go_wp2_with fail
              go_ret
              exact ⟨by rw [HNO.out]; rfl, hHeld⟩
        · obtain rfl : j = i := by omega
          have hs : sndN S U P (j + 1) = true := by rw [sndN, hsn.out, hft.out]; rfl
          have HS := Lib.hid hs
          clear hs hft
          go_wp2_with fail
          go_roundw
          case rel => exact ⟨j + 1, by omega, by go_num, HS, HB2⟩
          case measure => simp [intOf]; omega
    · obtain rfl : i = n := by omega
      go_wp2_with fail
      go_ret
      exact ⟨by rw [hsn.out]; rfl, HB1.out⟩
theorem sound_to (S U P : Nat → Int) (n c m c' l c3 : Nat) (hn : n ≤ 900) (hl : l ≤ 900) (A A' A3 : Option Addr) (w : World) (hr : Kit.Rd w w.heap.size A (rowV S n)) (hr' : Kit.Rd w w.heap.size A' (rowV U m)) (hr3 : Kit.Rd w w.heap.size A3 (rowV P l)) :
    Calls Try.prog 14 #[.slice A n c, .slice A' m c', .slice A3 l c3] w fun e w' => e = .returned (.bool (soundB S U P n m l)) ∧ Below w.heap.size w w' := by
  cases h : rightB S n m with
  | false => exact sound_no1 S U P n c m c' l c3 hn hl h A A' A3 w hr
  | true =>
    by_cases h2 : l = n
    · subst h2
      obtain ⟨h4, h5⟩ := (rightB_iff (by omega)).1 h
      subst h4
      cases h3 : inN P 1099511627776 l with
      | false => exact sound_no3 S U P l c l c' c3 hn h h3 A A' A3 w hr hr3
      | true => exact sound_yes S U P l c c' c3 hn h5 (inN_iff.1 h3) A A' A3 w hr hr' hr3
    · exact sound_no2 S U P n c m c' l c3 hn hl h h2 A A' A3 w hr
end Go.Proofs.Ytplmcmjfgocdkaa.CArena
