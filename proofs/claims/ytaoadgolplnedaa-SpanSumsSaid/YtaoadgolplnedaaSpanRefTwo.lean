/- Layer 24 (span), the document: what a scale makes of a range; a tensor's least and greatest number. -/
import Derived.Test.YtaoadgolplnedaaSpanRef
namespace Go.Proofs.Ytaoadgolplnedaa.CSpan
open Go Go.ChangeShapes Go.WideShapes Go.ChangeAt Go.RowKit
open Plain CSat CFix CShape CTensor CConv
set_option linter.unusedVariables false

/-- a number as one of 32 bits. -/
def c32 (a : Int) : Int := min (max a (-2147483648)) 2147483647
theorem c32_bd (a : Int) : -2147483648 ≤ c32 a ∧ c32 a ≤ 2147483647 := by unfold c32; omega
theorem heldZ_bds (a m s z lo hi : Int) (hl1 : -128 ≤ lo) (hl2 : lo ≤ 127) (hh1 : -128 ≤ hi) (hh2 : hi ≤ 127) : -128 ≤ heldZ a m s z lo hi ∧ heldZ a m s z lo hi ≤ 127 := by
  unfold heldZ clampZ; split <;> (try split) <;> (try split) <;> omega
theorem min_ite (a b : Int) : (if b < a then b else a) = min a b := by split <;> omega
theorem max_ite (a b : Int) : (if a < b then b else a) = max a b := by split <;> omega
set_option maxRecDepth 100000 in
set_option maxHeartbeats 2000000 in
theorem rafter_to (a b m s z lo hi : Int) (hm1 : -2147483648 ≤ m) (hm2 : m ≤ 2147483647) (hz1 : -128 ≤ z) (hz2 : z ≤ 127) (hl1 : -128 ≤ lo) (hl2 : lo ≤ 127) (hh1 : -128 ≤ hi) (hh2 : hi ≤ 127) (w : World) :
    Calls Try.prog 10 #[.int .i64 a, .int .i64 b, .agg #[.int .i32 m, .int .i64 s, .int .i8 z], .int .i8 lo, .int .i8 hi] w fun e w' =>
      e = .returned (.tuple #[.int .i8 (min (heldZ (c32 a) m s z lo hi) (heldZ (c32 b) m s z lo hi)), .int .i8 (max (heldZ (c32 a) m s z lo hi) (heldZ (c32 b) m s z lo hi))]) ∧ Below w.heap.size w w' := by
  obtain ⟨a1, a2⟩ := c32_bd a
  obtain ⟨b1, b2⟩ := c32_bd b
  obtain ⟨ma, hma⟩ : ∃ x, (if a < -2147483648 then -2147483648 else a) = x := ⟨_, rfl⟩
  obtain ⟨mb, hmb⟩ : ∃ x, (if b < -2147483648 then -2147483648 else b) = x := ⟨_, rfl⟩
  have hca : (if 2147483647 < ma then 2147483647 else ma) = c32 a := by rw [← hma, max_ite, min_ite]; rfl
  have hcb : (if 2147483647 < mb then 2147483647 else mb) = c32 b := by rw [← hmb, max_ite, min_ite]; rfl
  generalize c32 a = ca at *
  generalize c32 b = cb at *
  have e1 : IntKind.i32.wrap ca = ca := IntWalk.i32_in _ (by omega)
  have e2 : IntKind.i32.wrap cb = cb := IntWalk.i32_in _ (by omega)
  obtain ⟨x, hx⟩ : ∃ x, heldZ ca m s z lo hi = x := ⟨_, rfl⟩
  obtain ⟨y, hy⟩ : ∃ y, heldZ cb m s z lo hi = y := ⟨_, rfl⟩
  have k1 := min_ite x y
  have k2 := max_ite x y
  have HX := Lib.hid hx
  have HY := Lib.hid hy
  rw [hx, hy]
  generalize min x y = mn at *
  generalize max x y = mx at *
  have c1 := fun (w : World) => refHeldQ ca m s z lo hi a1 a2 hm1 hm2 hz1 hz2 hl1 hl2 hh1 hh2 w
  have c2 := fun (w : World) => refHeldQ cb m s z lo hi b1 b2 hm1 hm2 hz1 hz2 hl1 hl2 hh1 hh2 w
  rw [hx] at c1
  rw [hy] at c2
  have C1 := Lib.hid c1
  have C2 := Lib.hid c2
  have hal : Below w.heap.size w (w.alloc (.cells #[.int .i32 m, .int .i64 s, .int .i8 z] 26)) := (Below.refl _ _).alloc (Nat.le_refl _) _
  have HAL := Lib.hid hal
  clear hx hy c1 c2 hal
  go_enter Try.func10, Try.ntmps10
  go_wp2_with (first
    | (go_at_call 20; (have hchk := HB1); clear hchk; (refine (C2.out _).mono ?_); rintro e w2 ⟨rfl, hb2⟩; (replace HB1 := Lib.hid (HB1.out.trans (hb2.mono HB1.out.size))); clear hb2)
    | (go_at_call 20; (refine (C1.out _).mono ?_); rintro e w1 ⟨rfl, hb⟩; (obtain ⟨q0, q1, q2, -, -⟩ := Kit.box_3 (hb.mono (by simp))); (have HB1 := Lib.hid (HAL.out.trans (hb.mono HAL.out.size))); clear hb))
  refine bodyPost_ret (res_2 rfl _ _ _) rfl ?_
  exact ⟨rfl, HB1.out⟩
/-- the least, and the greatest, of the first numbers. -/
def mnF (zs : List Int) : Nat → Int
  | 0 => zs.getD 0 0
  | k + 1 => min (mnF zs k) (zs.getD k 0)
def mxF (zs : List Int) : Nat → Int
  | 0 => zs.getD 0 0
  | k + 1 => max (mxF zs k) (zs.getD k 0)
theorem mnF_le {zs : List Int} {n k : Nat} (h : k < n) : mnF zs n ≤ zs.getD k 0 := by
  induction n with
  | zero => omega
  | succ m ih =>
    simp only [mnF]
    by_cases e : k = m
    · subst e; omega
    · have := ih (by omega); omega
theorem mxF_ge {zs : List Int} {n k : Nat} (h : k < n) : zs.getD k 0 ≤ mxF zs n := by
  induction n with
  | zero => omega
  | succ m ih =>
    simp only [mxF]
    by_cases e : k = m
    · subst e; omega
    · have := ih (by omega); omega
theorem mnF_bd {zs : List Int} (h : I8b zs) (n : Nat) : -128 ≤ mnF zs n ∧ mnF zs n ≤ 127 := by
  induction n with
  | zero => exact h 0
  | succ m ih => have := h m; simp only [mnF]; omega
theorem mxF_bd {zs : List Int} (h : I8b zs) (n : Nat) : -128 ≤ mxF zs n ∧ mxF zs n ≤ 127 := by
  induction n with
  | zero => exact h 0
  | succ m ih => have := h m; simp only [mxF]; omega
set_option maxRecDepth 100000 in
set_option maxHeartbeats 2000000 in
theorem rreach_to (A : Option Addr) (zs : List Int) (n c : Nat) (hn : zs.length = n) (hn2 : n ≤ 1000000) (X Y : Int) (hX : mnF zs n = X) (hY : mxF zs n = Y) (w : World) {B : Nat} (hr : Kit.Rd w B A (I8s zs)) :
    Calls Try.prog 17 #[.slice A n c] w fun e w' => e = .returned (.tuple #[.int .i8 X, .int .i8 Y]) ∧ ∃ m, w' = w.drewN m := by
  rcases Nat.eq_zero_or_pos n with h0 | h0
  · subst h0
    have hz : zs = [] := List.eq_nil_of_length_eq_zero hn
    subst hz
    obtain rfl : 0 = X := hX
    obtain rfl : 0 = Y := hY
    go_enter Try.func17, Try.ntmps17
    go_wp2_with fail
    refine bodyPost_ret (res_2 rfl _ _ _) rfl ?_
    exact ⟨rfl, 0, rfl⟩
  · have HX := Lib.hid hX
    have HY := Lib.hid hY
    obtain ⟨ba, oa, rfl, -, hca⟩ := ints_getD hr (j := 0) (by omega)
    have hc0 := hca 0 (by omega)
    rw [Nat.add_zero] at hc0
    have HC := Lib.hid hca
    have HN := Lib.hid hn
    have e0 : ((n : Int) == 0) = false := by simp; omega
    have e1 : ¬ (n : Int) = 0 := by omega
    have e2 : (0 : Int) < (n : Int) := by omega
    have st0 : mnF zs 0 = zs.getD 0 0 := rfl
    have st1 : mxF zs 0 = zs.getD 0 0 := rfl
    have S0 := Lib.hid st0
    have S1 := Lib.hid st1
    generalize zs.getD 0 0 = x0 at hc0 S0 S1
    clear hX hY hca hr hn st0 st1
    go_enter Try.func17, Try.ntmps17
    go_wp2_with fail
    go_quiet (fail)
    go_wp2_with fail
    clear hc0 e0 e1 e2
    go_loopw [4, 5, 6] (fun s t u wr => ∃ k nq : Nat, k ≤ n ∧ u = .int .i64 k ∧ s = .int .i8 (mnF zs k) ∧ t = .int .i8 (mxF zs k) ∧ Hid (wr = w.drewN nq)) (fun _ _ u _ => n - (intOf u).toNat)
    case atStart => exact ⟨0, _, Nat.zero_le _, rfl, congrArg _ S0.out.symm, congrArg _ S1.out.symm, Lib.hid rfl⟩
    case round =>
      obtain ⟨k, nz, hk, rfl, rfl, rfl, hw⟩ := hrel
      obtain rfl := hw.out
      clear hw
      by_cases hlt : k < n
      · have hcx := HC.out k (by have := HN.out; omega)
        have hk0 : (0 : Int) ≤ (k : Int) := by omega
        have hkn : (k : Int) < (n : Int) := by omega
        have s1 : mnF zs (k + 1) = min (mnF zs k) (zs.getD k 0) := rfl
        have s2 : mxF zs (k + 1) = max (mxF zs k) (zs.getD k 0) := rfl
        rw [← min_ite] at s1
        rw [← max_ite] at s2
        generalize mnF zs k = P at s1 ⊢
        generalize mxF zs k = Q at s2 ⊢
        generalize zs.getD k 0 = x at hcx s1 s2
        have m1 : (if x < P then x else P) = mnF zs (k + 1) := s1.symm
        have m2 : (if Q < x then x else Q) = mxF zs (k + 1) := s2.symm
        generalize mnF zs (k + 1) = P2 at m1 ⊢
        generalize mxF zs (k + 1) = Q2 at m2 ⊢
        have S3 := Lib.hid s1
        have S4 := Lib.hid s2
        clear s1 s2
        go_wp2_with fail
        go_roundw
        case rel => exact ⟨k + 1, _, by omega, by go_num, congrArg _ (m1.symm.trans S3.out.symm), congrArg _ (m2.symm.trans S4.out.symm), Lib.hid rfl⟩
        case measure => simp [intOf]; omega
      · obtain rfl : k = n := by omega
        rw [HX.out, HY.out]
        go_wp2_with fail
        refine bodyPost_ret (res_2 rfl _ _ _) rfl ?_
        exact ⟨rfl, nz, rfl⟩
end Go.Proofs.Ytaoadgolplnedaa.CSpan
