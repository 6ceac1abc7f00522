/- Contracts of package pad (layer 9): the first error, the wider shape, what lies where behind a move. -/
import Derived.Test.YtgoonenkcikkaaaPadRef
import Derived.Test.YtgoonenkcikkaaaTensorAt2
import Derived.IntWalk
namespace Go.Proofs.Ytgoonenkcikkaaa.CPad
open Go Go.ChangeShapes Go.WideShapes Go.ChangeAt Go.RowKit
open Plain CSat CShape CTensor
set_option linter.unusedVariables false

theorem check_to (H W C : Int) (A : Option Addr) (n c : Nat) (p : Int) (r : Int) (hr : (if tensB H W C n = true then (if p < 0 ∨ 4 < p then 2 else 0) else 5) = r) (w : World) :
    Calls Try.prog 15 #[.agg #[.int .i64 H, .int .i64 W, .int .i64 C, .slice A n c], .int .i64 p] w fun e w' => e = .returned (.int .i64 r) ∧ Below w.heap.size w w' := by
  cases ht : tensB H W C n
  · rw [ht] at hr
    simp at hr
    subst hr
    have HT := Lib.hid ht
    clear ht
    go_enter Try.func15, Try.ntmps15
    go_wp2_with (go_at_call 20; (refine (right_to H W C A n c false HT.out _).mono ?_); rintro e w1 ⟨rfl, hb⟩; (have HB := Lib.hid (((Below.refl w.heap.size w).alloc (Nat.le_refl _) _).trans (hb.mono (by simp)))); clear hb)
    go_ret
    exact ⟨rfl, HB.out⟩
  · rw [ht, if_pos rfl] at hr
    have HT := Lib.hid ht
    clear ht
    rcases (show p < 0 ∨ (0 ≤ p ∧ 4 < p) ∨ (0 ≤ p ∧ p ≤ 4) by omega) with h | ⟨h, h2⟩ | ⟨h, h2⟩
    · rw [if_pos (Or.inl h)] at hr
      subst hr
      go_enter Try.func15, Try.ntmps15
      go_wp2_with (go_at_call 20; (refine (right_to H W C A n c true HT.out _).mono ?_); rintro e w1 ⟨rfl, hb⟩; (have HB := Lib.hid (((Below.refl w.heap.size w).alloc (Nat.le_refl _) _).trans (hb.mono (by simp)))); clear hb)
      go_ret
      exact ⟨rfl, HB.out⟩
    · rw [if_pos (Or.inr h2)] at hr
      subst hr
      go_enter Try.func15, Try.ntmps15
      go_wp2_with (go_at_call 20; (refine (right_to H W C A n c true HT.out _).mono ?_); rintro e w1 ⟨rfl, hb⟩; (have HB := Lib.hid (((Below.refl w.heap.size w).alloc (Nat.le_refl _) _).trans (hb.mono (by simp)))); clear hb)
      go_ret
      exact ⟨rfl, HB.out⟩
    · rw [if_neg (by omega)] at hr
      subst hr
      go_enter Try.func15, Try.ntmps15
      go_wp2_with (go_at_call 20; (refine (right_to H W C A n c true HT.out _).mono ?_); rintro e w1 ⟨rfl, hb⟩; (have HB := Lib.hid (((Below.refl w.heap.size w).alloc (Nat.le_refl _) _).trans (hb.mono (by simp)))); clear hb)
      go_ret
      exact ⟨rfl, HB.out⟩
theorem widened_to (H W C p : Int) (h1 : 1 ≤ H) (h2 : H ≤ 16) (h3 : 1 ≤ W) (h4 : W ≤ 16) (p1 : -4 ≤ p) (p2 : p ≤ 4) (w : World) :
    Calls Try.prog 17 #[.agg #[.int .i64 H, .int .i64 W, .int .i64 C], .int .i64 p] w fun e w' => e = .returned (.agg #[.int .i64 (H + 2 * p), .int .i64 (W + 2 * p), .int .i64 C]) ∧ Below w.heap.size w w' := by
  go_enter Try.func17, Try.ntmps17
  go_wp2_with fail
  refine bodyPost_ret (Kit.results_c rfl _ _ (w.heap.size + 1) 0 [.int .i64 (H + 2 * p), .int .i64 (W + 2 * p), .int .i64 C] _ rfl (Kit.range_3 (by go_cell) (by go_cell) (by go_cell)) Try.underlying23 rfl (by kernel_rfl)) rfl ?_
  exact ⟨rfl, by go_grown⟩
/-- the captured cells of what is moved. -/
def MovedAt (B : Nat) (H W C : Int) (A : Option Addr) (n c : Nat) (p q z : Int) (wd : World) : Prop :=
  BoxAt B H W C A n c wd ∧ wd.cell? ⟨B + 1, 0, none⟩ = some (.int .i64 p) ∧ wd.cell? ⟨B + 2, 0, none⟩ = some (.int .i64 q) ∧ wd.cell? ⟨B + 3, 0, none⟩ = some (.int .i8 z)
theorem MovedAt.below {B B' : Nat} {H W C : Int} {A : Option Addr} {n c : Nat} {p q z : Int} {w w' : World} (h : MovedAt B H W C A n c p q z w) (hB : B + 4 ≤ B') (hb : Below B' w w') : MovedAt B H W C A n c p q z w' := by
  obtain ⟨h0, h1, h2, h3⟩ := h
  exact ⟨h0.below (by omega) hb, (hb.cell (p := ⟨B + 1, 0, none⟩) (by show B + 1 < B'; omega)).trans h1, (hb.cell (p := ⟨B + 2, 0, none⟩) (by show B + 2 < B'; omega)).trans h2, (hb.cell (p := ⟨B + 3, 0, none⟩) (by show B + 3 < B'; omega)).trans h3⟩
def movedF (B : Nat) : Value := .func (.func 23) #[] #[.pointer (some ⟨B, 0, none⟩), .pointer (some ⟨B + 1, 0, none⟩), .pointer (some ⟨B + 2, 0, none⟩), .pointer (some ⟨B + 3, 0, none⟩)]
theorem moved_to (H W C : Int) (A : Option Addr) (n c : Nat) (p q z : Int) (w : World) :
    Calls Try.prog 18 #[.agg #[.int .i64 H, .int .i64 W, .int .i64 C, .slice A n c], .int .i64 p, .int .i64 q, .int .i8 z] w fun e w' => e = .returned (movedF w.heap.size) ∧ MovedAt w.heap.size H W C A n c p q z w' ∧ w.heap.size + 4 ≤ w'.heap.size ∧ Below w.heap.size w w' := by
  go_enter Try.func18, Try.ntmps18
  go_wp2_with fail
  go_ret
  refine ⟨rfl, ⟨⟨?_, ?_, ?_, ?_⟩, ?_, ?_, ?_⟩, by simp, by go_grown⟩
  all_goals go_cell
set_option maxHeartbeats 1000000 in
theorem moved1_in (H W C : Int) (A : Option Addr) (zs : List Int) (n c : Nat) (hn : zs.length = n) (hc : n ≤ c) (ht : tensB H W C n = true) (r s k p q z h v : Int) (hh : IntKind.i64.wrap (r - p) = h) (hv : IntKind.i64.wrap (s - q) = v) (k0 : 0 ≤ k) (k1 : k < C) (h0 : 0 ≤ h) (h1 : h < H) (v0 : 0 ≤ v) (v1 : v < W) (x : Int) (hx : zs.getD ((h * W + v) * C + k).toNat 0 = x)
    {B Bz : Nat} (W0 : World) (hM : MovedAt B H W C A n c p q z W0) (hB : B + 4 ≤ W0.heap.size) (hBz : Bz ≤ W0.heap.size) (hr : Kit.Rd W0 Bz A (I8s zs)) :
    Calls Try.prog 23 #[.int .i64 r, .int .i64 s, .int .i64 k, .pointer (some ⟨B, 0, none⟩), .pointer (some ⟨B + 1, 0, none⟩), .pointer (some ⟨B + 2, 0, none⟩), .pointer (some ⟨B + 3, 0, none⟩)] W0 fun e w' => e = .returned (.int .i8 x) ∧ Below W0.heap.size W0 w' := by
  have hs : shapeB H W C = true := by simp only [tensB, Bool.and_eq_true] at ht; exact ht.1
  have hm : (n : Int) = H * W * C := by simp only [tensB, Bool.and_eq_true, decide_eq_true_eq] at ht; exact ht.2
  obtain ⟨g1, g2, g3, g4, g5, g6, g7, g8⟩ := place_bd hs hm h0 h1 v0 v1 k0 k1
  obtain ⟨pp, hpp⟩ : ∃ pp : Nat, (h * W + v) * C + k = (pp : Int) := ⟨((h * W + v) * C + k).toNat, by omega⟩
  have hpn : pp < n := by omega
  have hn9 : n ≤ 1000000 := by
    have := (shapeB_yes hs).2.2.2.2.2.2; omega
  have hx2 : zs[pp]? = some x := by
    rw [hpp] at hx
    rw [List.getElem?_eq_getElem (by omega), ← hx]
    simp [List.getD_eq_getElem?_getD, List.getElem?_eq_getElem (show pp < zs.length by omega)]
  have hpl : placeB H W C n h v k = true := by
    simp only [placeB, inB, Bool.and_eq_true, decide_eq_true_eq]
    exact ⟨ht, hs, h0, h1, v0, v1, k0, k1⟩
  have HPL := Lib.hid hpl
  have HPP := Lib.hid hpp
  have HX := Lib.hid hx2
  have HN := Lib.hid hn
  have HR := Lib.hid hr
  obtain ⟨⟨c0, c1, c2, c3⟩, c4, c5, c6⟩ := hM
  clear hpl hpp hx2 hx hn hr ht hs hm g1 g2 g3 g4 g5 g6 g7 g8
  go_enter Try.func23, Try.ntmps23
  go_wp2_with (go_at_call 24; (refine (at_yes H W C A zs n c HN.out hc hn9 h v k pp HPL.out HPP.out x HX.out (B := Bz) _ hBz HR.out).mono ?_); rintro e w1 ⟨rfl, hb⟩; (have HB := Lib.hid hb); clear hb)
  go_ret
  exact ⟨rfl, HB.out⟩
set_option maxHeartbeats 1000000 in
theorem moved1_out (H W C : Int) (A : Option Addr) (n c : Nat) (r s k p q z h v : Int) (hh : IntKind.i64.wrap (r - p) = h) (hv : IntKind.i64.wrap (s - q) = v) (ho : ¬ (0 ≤ h ∧ h < H ∧ 0 ≤ v ∧ v < W))
    {B : Nat} (W0 : World) (hM : MovedAt B H W C A n c p q z W0) (hB : B + 4 ≤ W0.heap.size) :
    Calls Try.prog 23 #[.int .i64 r, .int .i64 s, .int .i64 k, .pointer (some ⟨B, 0, none⟩), .pointer (some ⟨B + 1, 0, none⟩), .pointer (some ⟨B + 2, 0, none⟩), .pointer (some ⟨B + 3, 0, none⟩)] W0 fun e w' => e = .returned (.int .i8 z) ∧ Below W0.heap.size W0 w' := by
  have hpl : placeB H W C n h v k = false := by
    cases hb : placeB H W C n h v k
    · rfl
    · simp only [placeB, inB, Bool.and_eq_true, decide_eq_true_eq] at hb
      obtain ⟨-, -, a1, a2, a3, a4, -⟩ := hb
      exact absurd ⟨a1, a2, a3, a4⟩ ho
  have HPL := Lib.hid hpl
  obtain ⟨⟨c0, c1, c2, c3⟩, c4, c5, c6⟩ := hM
  clear hpl ho
  go_enter Try.func23, Try.ntmps23
  go_wp2_with (go_at_call 24; (refine (at_no H W C A n c h v k HPL.out _).mono ?_); rintro e w1 ⟨rfl, hb⟩; (have c6 := (hb.cell (p := ⟨B + 3, 0, none⟩) (by show B + 3 < _; omega)).trans c6); (have HB := Lib.hid hb); clear hb)
  go_ret
  exact ⟨rfl, HB.out⟩
theorem moved1_to (H W C : Int) (A : Option Addr) (zs : List Int) (n c : Nat) (hn : zs.length = n) (hc : n ≤ c) (ht : tensB H W C n = true) (r s k p q z h v : Int) (hh : IntKind.i64.wrap (r - p) = h) (hv : IntKind.i64.wrap (s - q) = v) (k0 : 0 ≤ k) (k1 : k < C) (x : Int) (hx : pixZ zs H W C h v k z = x)
    {B Bz : Nat} (W0 : World) (hM : MovedAt B H W C A n c p q z W0) (hB : B + 4 ≤ W0.heap.size) (hBz : Bz ≤ W0.heap.size) (hr : Kit.Rd W0 Bz A (I8s zs)) :
    Calls Try.prog 23 #[.int .i64 r, .int .i64 s, .int .i64 k, .pointer (some ⟨B, 0, none⟩), .pointer (some ⟨B + 1, 0, none⟩), .pointer (some ⟨B + 2, 0, none⟩), .pointer (some ⟨B + 3, 0, none⟩)] W0 fun e w' => e = .returned (.int .i8 x) ∧ Below W0.heap.size W0 w' := by
  unfold pixZ at hx
  by_cases hi : 0 ≤ h ∧ h < H ∧ 0 ≤ v ∧ v < W
  · rw [if_pos hi] at hx
    exact moved1_in H W C A zs n c hn hc ht r s k p q z h v hh hv k0 k1 hi.1 hi.2.1 hi.2.2.1 hi.2.2.2 x hx W0 hM hB hBz hr
  · rw [if_neg hi] at hx
    subst hx
    exact moved1_out H W C A n c r s k p q z h v hh hv hi W0 hM hB
end Go.Proofs.Ytgoonenkcikkaaa.CPad
