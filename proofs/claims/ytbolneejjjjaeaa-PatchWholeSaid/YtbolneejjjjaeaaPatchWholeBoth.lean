/- PatchWhole: where windows do not overlap, and cover all, what is taken apart is put together again; the call returns true and leaves its arguments as they were. No condition. -/
import Derived.Test.YtbolneejjjjaeaaPatchBoth
import Derived.Test.YtbolneejjjjaeaaPatchBackY
import Derived.Test.YtbolneejjjjaeaaPatchWholeNum
import Derived.Test.YtbolneejjjjaeaaOpenTensor
namespace Go.Proofs.Ytbolneejjjjaeaa.lawPatchWhole
open Go Go.ChangeShapes Go.WideShapes Go.ChangeAt Go.RowKit
open Plain CSat CShape CTensor CConv CPatch
set_option linter.unusedVariables false

set_option maxHeartbeats 2000000 in
theorem walk_big {w : World} (H W C : Int) (A : Option Addr) (zs : List Int) (n c : Nat) (k0 r s : Nat) (z : Int) (hk : k0 ≤ 255) (hkr : k0 % 4 = r) (hrs : r + 1 = s) (hbig : 1024 < n) : Calls Try.prog 4 #[.agg #[.int .i64 H, .int .i64 W, .int .i64 C, .slice A n c], .int .u8 (k0 : Int), .int .i8 z] w fun e w' => e = .returned (.bool true) ∧ Below w.heap.size w w' := by
  have hr4 : r < 4 := by omega
  have m1 : (k0 : Int) % 4 = (r : Int) := by omega
  have m2 : (k0 : Int).tmod 4 = (r : Int) := by rw [Int.tmod_eq_emod_of_nonneg (by omega)]; omega
  have m3 : IntKind.u8.wrap (r : Int) = (r : Int) := IntWalk.u8_in _ (by omega)
  have m4 : IntKind.i64.wrap (r : Int) = (r : Int) := IntWalk.i64_in _ (by omega)
  have m5 : IntKind.i64.wrap ((r : Int) + 1) = (s : Int) := by rw [IntWalk.i64_in _ (by omega)]; omega
  have m6 : ¬ (s : Int) = 0 := by omega
  clear hkr hrs
  go_enter Try.func4, Try.ntmps4
  go_wp2_with (first
  | (go_at_call 5
     have hal : Below w.heap.size w (w.alloc (.cells #[.int .i64 H, .int .i64 W, .int .i64 C, .slice A n c] 45)) := (Below.refl _ _).alloc (by first | exact Nat.le_refl _ | (simp; done) | (simp; omega)) _
     refine (known11 _).mono ?_
     rintro e w2 ⟨rfl, hb⟩
     have hh : Below w.heap.size w w2 := hal.trans (hb.mono hal.size)
     have HBW : Hid (Below w.heap.size w w2) := Lib.hid hh
     clear hb hh hal))
  go_ret
  exact ⟨rfl, HBW.out⟩
theorem whole_both (H W C : Int) (A : Option Addr) (zs : List Int) (n c s : Nat) (z : Int) (hs1 : 1 ≤ s) (hs4 : s ≤ 4) (hn : zs.length = n) (hz8 : I8b zs) (z1 : -128 ≤ z) (z2 : z ≤ 127) (hn1 : n ≤ 1024) (ht : tensB H W C n = true) (hH : H.tmod (s : Int) = 0) (hW : W.tmod (s : Int) = 0) :
    ∃ (N1 wd N : Nat) (F : Nat → Int), (∀ w : World, Kit.Rd w w.heap.size A (I8s zs) → Calls Try.prog 12 #[.agg #[.int .i64 H, .int .i64 W, .int .i64 C, .slice A n c], .agg #[.int .i64 0, .int .i64 0, .int .i64 0, .int .i64 (s : Int), .int .i64 (s : Int), .int .i64 0, .int .i64 0, .int .i8 z, .int .i8 0, .slice none 0 0, .slice none 0 0, .int .i32 0, .int .i64 0, .int .i8 0, .int .i32 0, .int .i64 0, .int .i8 0, .int .i8 0, .int .i8 0]] w (MadeR w (N1 : Int) (wd : Int) N (listF F N) (.int .i64 0))) ∧ (∀ (A2 : Option Addr) (c2 : Nat) (w : World), Kit.Rd w w.heap.size A2 (I16v (listF F N)) → Calls Try.prog 6 #[.agg #[.int .i64 (N1 : Int), .int .i64 (wd : Int), .slice A2 N c2], .agg #[.int .i64 H, .int .i64 W, .int .i64 C], .agg #[.int .i64 0, .int .i64 0, .int .i64 0, .int .i64 (s : Int), .int .i64 (s : Int), .int .i64 0, .int .i64 0, .int .i8 z, .int .i8 0, .slice none 0 0, .slice none 0 0, .int .i32 0, .int .i64 0, .int .i8 0, .int .i32 0, .int .i64 0, .int .i8 0, .int .i8 0, .int .i8 0]] w (MadeS w n (listF (fun p => zs.getD p 0 - z) n) 0)) := by
  have hs0 : shapeB H W C = true := by simp only [tensB, Bool.and_eq_true] at ht; exact ht.1
  have hm : (n : Int) = H * W * C := by simp only [tensB, Bool.and_eq_true, decide_eq_true_eq] at ht; exact ht.2
  obtain ⟨g1, g2, g3, g4, g5, g6, g7⟩ := shapeB_yes hs0
  rw [Int.tmod_eq_emod_of_nonneg (by omega)] at hH hW
  obtain ⟨a, ha⟩ : ∃ a : Nat, H = ((a * s : Nat) : Int) := ⟨(H / (s : Int)).toNat, by
    have h1 := Int.ediv_nonneg (show 0 ≤ H by omega) (show 0 ≤ (s : Int) by omega)
    rw [Int.natCast_mul, Int.toNat_of_nonneg h1]
    have := Int.emod_add_mul_ediv H (s : Int)
    rw [Int.mul_comm] at this
    omega⟩
  obtain ⟨b, hb⟩ : ∃ b : Nat, W = ((b * s : Nat) : Int) := ⟨(W / (s : Int)).toNat, by
    have h1 := Int.ediv_nonneg (show 0 ≤ W by omega) (show 0 ≤ (s : Int) by omega)
    rw [Int.natCast_mul, Int.toNat_of_nonneg h1]
    have := Int.emod_add_mul_ediv W (s : Int)
    rw [Int.mul_comm] at this
    omega⟩
  obtain ⟨d, hd⟩ : ∃ d : Nat, C = (d : Int) := ⟨C.toNat, by omega⟩
  have ha1 : 1 ≤ a := by
    rcases Nat.eq_zero_or_pos a with h | h
    · subst h; simp at ha; omega
    · exact h
  have hb1 : 1 ≤ b := by
    rcases Nat.eq_zero_or_pos b with h | h
    · subst h; simp at hb; omega
    · exact h
  have ha16 : a ≤ 16 := by have := Nat.le_mul_of_pos_right a (show 0 < s by omega); omega
  have hb16 : b ≤ 16 := by have := Nat.le_mul_of_pos_right b (show 0 < s by omega); omega
  have aS : argsB H (s : Int) (s : Int) 0 = true := by simp [argsB]; omega
  have bS : argsB W (s : Int) (s : Int) 0 = true := by simp [argsB]; omega
  have hsA : (s : Int) ≤ H := by rw [ha]; have := Nat.le_mul_of_pos_left s ha1; omega
  have hsB : (s : Int) ≤ W := by rw [hb]; have := Nat.le_mul_of_pos_left s hb1; omega
  have stA : stepsM H (s : Int) (s : Int) 0 = (a : Int) := by
    unfold stepsM; rw [if_pos aS, if_neg (by omega)]
    have e : H + 2 * 0 - (s : Int) = ((a : Int) - 1) * (s : Int) := by rw [ha, Int.sub_mul, Int.natCast_mul]; omega
    rw [e, Int.mul_ediv_cancel _ (by omega)]; omega
  have stB : stepsM W (s : Int) (s : Int) 0 = (b : Int) := by
    unfold stepsM; rw [if_pos bS, if_neg (by omega)]
    have e : W + 2 * 0 - (s : Int) = ((b : Int) - 1) * (s : Int) := by rw [hb, Int.sub_mul, Int.natCast_mul]; omega
    rw [e, Int.mul_ediv_cancel _ (by omega)]; omega
  have hab : a * b ≤ 256 := Nat.le_trans (Nat.mul_le_mul ha16 hb16) (by omega)
  have hsr : shapeB (stepsM H (s : Int) (s : Int) 0) (stepsM W (s : Int) (s : Int) 0) 1 = true := by
    rw [stA, stB]; unfold shapeB; simp only [decide_eq_true_eq]
    have : (a : Int) * (b : Int) * 1 = ((a * b : Nat) : Int) := by simp
    rw [this]; omega
  have he : slideE H W C (s : Int) (s : Int) 0 1 = 0 := by
    have e1 : stepsE H (s : Int) (s : Int) 0 = 0 := by unfold stepsE; rw [if_pos aS, if_neg (by omega)]
    have e2 : stepsE W (s : Int) (s : Int) 0 = 0 := by unfold stepsE; rw [if_pos bS, if_neg (by omega)]
    unfold slideE; rw [hs0, e1, e2, hsr]; simp
  obtain ⟨k2, hk2⟩ : ∃ x, s * s = x := ⟨_, rfl⟩
  obtain ⟨wd, hwd⟩ : ∃ x, k2 * d = x := ⟨_, rfl⟩
  obtain ⟨N1, hN1⟩ : ∃ x, a * b = x := ⟨_, rfl⟩
  obtain ⟨N, hN⟩ : ∃ x, N1 * wd = x := ⟨_, rfl⟩
  have hEn : n = a * s * (b * s) * d := by
    have : (n : Int) = ((a * s * (b * s) * d : Nat) : Int) := by rw [hm, ha, hb, hd]; simp
    omega
  obtain ⟨F, hF⟩ : ∃ F, F = numF zs H W C (s : Int) 0 z b s d wd := ⟨_, rfl⟩
  have hnum := whole_num zs hz8 z z1 z2 (a := a) (s := s) (b := b) (d := d) (wd := wd) (N := N) (by omega) (by omega) (by omega) (by rw [hk2]; exact hwd) (by rw [hN1]; exact hN) n hEn
  rw [← ha, ← hb, ← hd, ← hF] at hnum
  have hFb : ∀ q, -32768 ≤ (listF F N).getD q 0 ∧ (listF F N).getD q 0 ≤ 32767 := fun q => by
    rw [List.getD_eq_getElem?_getD]
    by_cases h : q < N
    · rw [listF_at F h, hF]
      show -32768 ≤ numF _ _ _ _ _ _ _ _ _ _ _ q ∧ numF _ _ _ _ _ _ _ _ _ _ _ q ≤ 32767
      unfold numF
      split
      · have := hz8 ((((((q / wd / b : Nat) : Int) * (s : Int) - 0 + ((q % wd / d / s : Nat) : Int)) * W + (((q / wd % b : Nat) : Int) * (s : Int) - 0 + ((q % wd / d % s : Nat) : Int))) * C + ((q % wd % d : Nat) : Int)).toNat)
        omega
      · omega
    · rw [List.getElem?_eq_none (by rw [listF_len]; omega)]; decide
  have hEl : elemsZ H W C = (n : Int) := by rw [elemsZ_yes hs0]; omega
  refine ⟨N1, wd, N, F, fun w hr => pOf_yes H W C A zs n c hn hz8 (.int .i64 0) (.int .i64 0) (.int .i64 0) (.int .i8 0) (.int .i32 0) (.int .i64 0) (.int .i8 0) (.int .i32 0) (.int .i64 0) (.int .i8 0) (.int .i8 0) (.int .i8 0) (s : Int) (s : Int) 0 0 z none none 0 0 0 0 z1 z2 ht he a b s d k2 wd N1 N stA stB rfl hd hk2 hwd hN1 hN F hF w hr, fun A2 c2 w h => ?_⟩
  have := pBack_yes A2 c2 (listF F N) H W C (.int .i64 0) (.int .i64 0) (.int .i64 0) (.int .i8 0) (.int .i32 0) (.int .i64 0) (.int .i8 0) (.int .i32 0) (.int .i64 0) (.int .i8 0) (.int .i8 0) (.int .i8 0) (s : Int) (s : Int) 0 0 z none none 0 0 0 0 he a b s d k2 wd N1 stA stB rfl hd hk2 hwd hN1 (by rw [hN, listF_len]) hFb n hEl w h
  rw [hN, hnum] at this
  exact this
end Go.Proofs.Ytbolneejjjjaeaa.lawPatchWhole
