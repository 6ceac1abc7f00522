/- Layer 22 (rank): what must come of fixed calls; the beginning of the order. -/
import Derived.Test.YtlpnaacagbgnkaaRankRefOrd
import Derived.Test.YtlpnaacagbgnkaaRankRefTwo
import Derived.Test.YtlpnaacagbgnkaaRankPlace
namespace Go.Proofs.Ytlpnaacagbgnkaa.CRank
open Go Go.ChangeShapes Go.WideShapes Go.ChangeAt Go.RowKit
open Plain
set_option linter.unusedVariables false

def G3 (i : Nat) : Int := if i = 0 then 3 else 9
theorem G3_b : I32b G3 := fun k => by unfold G3; split <;> omega
theorem G3_row : I32v (rowL G3 3) = [.int .i32 3, .int .i32 9, .int .i32 9] := rfl
theorem G3_best : grF G3 (-1) 3 = 1 := by decide
theorem G3_marg : margF G3 3 = 0 := by decide
theorem G3_ord : orderL G3 3 = [1, 2, 0] := by rw [← refP_all]; rfl
set_option maxRecDepth 100000 in
set_option maxHeartbeats 2000000 in
theorem known22 (w : World) : Calls Try.prog 6 #[] w fun e w' => e = .returned (.bool true) ∧ Below w.heap.size w w' := by
  have hal : Below w.heap.size w (w.alloc (.cells #[.int .i32 3, .int .i32 9, .int .i32 9] 21)) := (Below.refl _ _).alloc (Nat.le_refl _) _
  have hr0 : Kit.Rd (w.alloc (.cells #[.int .i32 3, .int .i32 9, .int .i32 9] 21)) (w.heap.size + 1) (some ⟨w.heap.size, 0, none⟩) (I32v (rowL G3 3)) := by
    rw [G3_row]; exact Kit.Rd.new _ _ _ (Nat.lt_succ_self _)
  have HB0 := Lib.hid hal
  have HR := Lib.hid hr0
  clear hal hr0
  go_enter Try.func6, Try.ntmps6
  go_wp2_with (first
    | (go_at_call 7; (refine (best_to G3 3 (by omega) _ _ 1 G3_best _ HR.out).mono ?_); rintro e w1 ⟨rfl, rfl⟩)
    | (go_at_call 9; (refine (margin_to G3 G3_b 3 (by omega) _ _ 0 G3_marg _ HR.out).mono ?_); rintro e w1 ⟨rfl, m, hm⟩; (have HB1 := Lib.hid (Kit.below_drewN HB0.out m)); (have HR1 := Lib.hid (HR.out.drewN m)); (have hs1 : w.heap.size + 1 ≤ w1.heap.size := by rw [hm]; simp [World.drewN]); (rw [← hm] at HB1 HR1); clear hm)
    | (go_at_call 15; (refine (order_to G3 3 (by omega) _ _ _ (HR1.out.more hs1)).mono ?_); rintro e w2 ⟨v, rfl, ho, hb⟩; (rw [G3_ord] at ho); (have HB2 := Lib.hid (HB1.out.trans (hb.mono HB1.out.size))); (obtain ⟨A2, c2, rfl, -, -, hrd⟩ := Kit.own_rd ho); (have HRD := Lib.hid hrd); clear ho hb hrd)
    | (go_at_call 14; (refine (rsame_yes [1, 2, 0] 3 rfl (by omega) A2 _ c2 3 _ (HRD.out.below ((Below.refl _ _).alloc (Nat.le_refl _) _)) (Kit.Rd.new w2 [.int .i64 1, .int .i64 2, .int .i64 0] 3 (Nat.lt_succ_self _))).mono ?_); rintro e w3 ⟨rfl, m3, rfl⟩))
  go_ret
  exact ⟨rfl, Kit.below_drewN ((HB2.out).alloc HB2.out.size _) _⟩
set_option maxRecDepth 100000 in
set_option maxHeartbeats 2000000 in
theorem top_to (G : Nat → Int) (n : Nat) (hn : n ≤ 60) (A : Option Addr) (c : Nat) (N : Int) (t : Nat) (ht : t = min N.toNat n) (w : World) (hr : Kit.Rd w w.heap.size A (I32v (rowL G n))) :
    Calls Try.prog 16 #[.slice A n c, .int .i64 N] w fun e w' => ∃ A' c', e = .returned (.slice A' t c') ∧ Kit.Rd w' w'.heap.size A' (I64v ((orderL G n).take t)) ∧ Below w.heap.size w w' := by
  rcases Int.lt_or_le N 1 with h | h
  · obtain rfl : t = 0 := by omega
    go_enter Try.func16, Try.ntmps16
    go_wp2_with fail
    go_ret
    exact ⟨none, 0, rfl, Kit.Rd.nil, Below.refl _ _⟩
  · obtain ⟨q, rfl⟩ : ∃ q : Nat, N = q := ⟨N.toNat, by omega⟩
    have ht2 : t = min q n := by omega
    have HA := Lib.hid hr
    have HT := Lib.hid ht2
    have h1 : ¬ (q : Int) < 1 := by omega
    clear hr ht h ht2
    go_enter Try.func16, Try.ntmps16
    rcases Nat.lt_or_ge q n with h2 | h2
    · obtain rfl : t = q := by have := HT.out; omega
      have h3 : (t : Int) < (n : Int) := by omega
      go_wp2_with (go_at_call 15; (refine (order_to G n hn A c w HA.out).mono ?_); rintro e w2 ⟨v, rfl, ho, hb⟩; (obtain ⟨A2, c2, rfl, hc2, -, hrd⟩ := Kit.own_rd ho); (have HB := Lib.hid hb); (have HRD := Lib.hid hrd); (have h5 : (t : Int) ≤ (c2 : Int) := by omega); (have h6 : (0 : Int) ≤ (t : Int) := by omega); clear ho hb hrd)
      go_ret
      have e9 : (min (t : Int) (n : Int)).toNat = t := by omega
      exact ⟨A2, c2, congrArg (fun z => Ending.returned (.slice A2 z c2)) e9, by have := HRD.out.take t; rwa [I64v, ← List.map_take] at this, HB.out⟩
    · obtain rfl : t = n := by have := HT.out; omega
      have h3 : (t : Int) ≤ (q : Int) := by omega
      go_wp2_with (go_at_call 15; (refine (order_to G t hn A c w HA.out).mono ?_); rintro e w2 ⟨v, rfl, ho, hb⟩; (obtain ⟨A2, c2, rfl, hc2, -, hrd⟩ := Kit.own_rd ho); (have HB := Lib.hid hb); (have HRD := Lib.hid hrd); (have h5 : (t : Int) ≤ (c2 : Int) := by omega); (have h6 : (0 : Int) ≤ (t : Int) := by omega); clear ho hb hrd)
      go_ret
      have e9 : (min (q : Int) (t : Int)).toNat = t := by omega
      exact ⟨A2, c2, congrArg (fun z => Ending.returned (.slice A2 z c2)) e9, by have := HRD.out.take t; rwa [I64v, ← List.map_take] at this, HB.out⟩
end Go.Proofs.Ytlpnaacagbgnkaa.CRank
