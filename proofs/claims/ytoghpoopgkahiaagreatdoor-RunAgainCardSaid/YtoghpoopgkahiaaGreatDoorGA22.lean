/- Texts of this seat, one behind the other: TensorSame, PatchHelp, PoolWin, PoolNearC, JoinOne. -/
import Derived.Laws.StructEq
import Derived.BigQuiet
import Derived.Laws.AppendOwn
import Derived.Deep.RegionHeld3
import Derived.Test.YtoghpoopgkahiaaGreatDoorGA5
import Derived.Test.YtoghpoopgkahiaaGreatDoorGA7
import Derived.Test.YtoghpoopgkahiaaGreatDoorGA8
import Derived.Test.YtoghpoopgkahiaaGreatDoorGA9
import Derived.Test.YtoghpoopgkahiaaGreatDoorGA21
section
namespace Go.Proofs.YtoghpoopgkahiaaGreatDoor.CTensor
open Go Go.ChangeShapes Go.WideShapes Go.ChangeAt Go.RowKit
open Plain CSat CShape
set_option linter.unusedVariables false
theorem eqShape (a b c x y z : Int) (w : World) : (Op.equalIn 10000 30 (.agg #[.int .i64 a, .int .i64 b, .int .i64 c]) (.agg #[.int .i64 x, .int .i64 y, .int .i64 z])).run Tryz.prog w = .ok (a == x && (b == y && c == z)) w := by
  have u3 := Tryz.underlying3
  have a3 := Tryz.isAgg3
  have z3 := Tryz.sizeOf3
  have hS : Tryz.prog.underlying 30 = some (.struct (Tryz.prog.fieldsOf 30)) := by kernel_rfl
  rw [show (10000 : Nat) = 9999 + 1 from rfl, run_equalIn_agg w 9999 30 _ _ hS Tryz.stoodInHeld30]
  simp only [Program.fieldsOf, Tryz.underlying30]
  go_simp
  by_cases h1 : a = x <;> by_cases h2 : b = y <;> by_cases h3 : c = z <;> simp [h1, h2, h3]
theorem differ {xs ys : List Int} {k : Nat} (h1 : k < xs.length) (h2 : k < ys.length) (h : ¬ xs[k] = ys[k]) : decide (xs = ys) = false := by
  simp only [decide_eq_false_iff_not]
  intro e
  subst e
  exact h rfl
end Go.Proofs.YtoghpoopgkahiaaGreatDoor.CTensor
end
section
namespace Go.Proofs.YtoghpoopgkahiaaGreatDoor.CPatch
open Go Go.ChangeShapes Go.WideShapes Go.ChangeAt Go.RowKit
open Plain CSat CShape CTensor CConv
set_option linter.unusedVariables false
theorem ShapeAt_grown {B gd : Nat} {H W C : Int} {w w' : World} (h : ShapeAt B H W C w) (hg : w.grownBy w' (some gd)) (hB : B < w.heap.size) (hne : gd ≠ B) : ShapeAt B H W C w' :=
  ⟨(hg.cell_far ⟨B, 0, none⟩ hB (by simp; omega)).trans h.1, (hg.cell_far ⟨B, 1, none⟩ hB (by simp; omega)).trans h.2.1, (hg.cell_far ⟨B, 2, none⟩ hB (by simp; omega)).trans h.2.2⟩
theorem NodeAt_grown {B gd : Nat} {x0 x1 x2 x8 x11 x12 x13 x14 x15 x16 x17 x18 : Value} {K S P O Z : Int} {WA BA : Option Addr} {nW cW nB cB : Nat} {w w' : World} (h : NodeAt B x0 x1 x2 x8 x11 x12 x13 x14 x15 x16 x17 x18 K S P O Z WA BA nW cW nB cB w) (hg : w.grownBy w' (some gd)) (hB : B < w.heap.size) (hne : gd ≠ B) : NodeAt B x0 x1 x2 x8 x11 x12 x13 x14 x15 x16 x17 x18 K S P O Z WA BA nW cW nB cB w' := fun j v hj =>
  (hg.cell_far ⟨B, 0 + j, none⟩ hB (by simp; omega)).trans (h j v hj)
theorem begin_to (M Wd : Int) (x : Value) (i R : Int) (hR : IntKind.i64.wrap (i * Wd) = R) (w : World) :
    Calls Tryz.prog 125 #[.agg #[.int .i64 M, .int .i64 Wd, x], .int .i64 i] w fun e w' => e = .returned (.int .i64 R) ∧ Below w.heap.size w w' := by
  go_enter Tryz.func125, Tryz.ntmps125
  go_wp2_with fail
  go_ret
  exact ⟨rfl, (Below.refl _ _).alloc (Nat.le_refl _) _⟩
set_option maxHeartbeats 1000000 in
theorem empty_to (H W C a b c : Int) (x0 x1 x2 x8 x11 x12 x13 x14 x15 x16 x17 x18 : Value) (K S P O Z : Int) (WA BA : Option Addr) (nW cW nB cB : Nat) (M k2 Wd : Int) (h1 : IntKind.i64.wrap (a * b) = M) (h2 : IntKind.i64.wrap (K * K) = k2) (h3 : IntKind.i64.wrap (k2 * C) = Wd) (w : World) :
    Calls Tryz.prog 123 #[.agg #[.int .i64 H, .int .i64 W, .int .i64 C], .agg #[.int .i64 a, .int .i64 b, .int .i64 c], .agg #[x0, x1, x2, .int .i64 K, .int .i64 S, .int .i64 P, .int .i64 O, .int .i8 Z, x8, .slice WA nW cW, .slice BA nB cB, x11, x12, x13, x14, x15, x16, x17, x18]] w fun e w' => e = .returned (.agg #[.int .i64 M, .int .i64 Wd, .slice none 0 0]) ∧ Below w.heap.size w w' := by
  go_enter Tryz.func123, Tryz.ntmps123
  go_wp2_with fail
  refine bodyPost_ret (Kit.results_c rfl _ _ (w.heap.size + 3) 0 [.int .i64 M, .int .i64 Wd, .slice none 0 0] _ rfl (Kit.range_3 (by go_cell) (by go_cell) (by go_cell)) Tryz.underlying116 rfl (by kernel_rfl)) rfl ?_
  exact ⟨rfl, by first | exact ((((Below.refl _ _).alloc (Nat.le_refl _) _).alloc (by simp) _).alloc (by simp; omega) _).alloc (by simp; omega) _ | (refine ((((((((Below.refl _ _).alloc (Nat.le_refl _) _).alloc (by simp) _).alloc (by simp; omega) _).alloc (by simp; omega) _).setCell ?_ _).setCell ?_ _).setCell ?_ _) <;> simp)⟩
end Go.Proofs.YtoghpoopgkahiaaGreatDoor.CPatch
end
section
namespace Go.Proofs.YtoghpoopgkahiaaGreatDoor.CPool
open Go Go.ChangeShapes Go.WideShapes Go.ChangeAt Go.RowKit
open Plain CSat CShape CTensor CConv
set_option linter.unusedVariables false
/-- the numbers that a window has of a channel. -/
def hereL (zs : List Int) (H W C top left : Int) (o i j : Nat) : List Int :=
  if 0 ≤ top + (i : Int) ∧ top + (i : Int) < H ∧ 0 ≤ left + (j : Int) ∧ left + (j : Int) < W then [zs.getD (((top + (i : Int)) * W + (left + (j : Int))) * C + (o : Int)).toNat 0] else []
def colL (zs : List Int) (H W C top left : Int) (o i : Nat) : Nat → List Int
  | 0 => []
  | j + 1 => colL zs H W C top left o i j ++ hereL zs H W C top left o i j
def rowsL (zs : List Int) (H W C top left : Int) (kk o : Nat) : Nat → List Int
  | 0 => []
  | i + 1 => rowsL zs H W C top left kk o i ++ colL zs H W C top left o i kk
def windowL (zs : List Int) (H W C top left : Int) (kk o : Nat) : List Int := rowsL zs H W C top left kk o kk
theorem info_i8p : (Tryz.prog.info? 22).map (fun i => (i.zero, i.size, i.bytes)) = some (some (.int .i8 0), 1, 1) := by kernel_rfl
end Go.Proofs.YtoghpoopgkahiaaGreatDoor.CPool
end
section
namespace Go.Proofs.YtoghpoopgkahiaaGreatDoor.CPool
open Go Go.ChangeShapes Go.WideShapes Go.ChangeAt Go.RowKit
open Plain CSat CShape CTensor CConv
set_option linter.unusedVariables false
set_option maxHeartbeats 4000000 in
theorem near_to (s m : Int) (s1 : -4611686018427387904 ≤ s) (s2 : s ≤ 4611686018427387904) (m2 : m ≤ 9223372036854775807) (R : Int) (hR : nearZ s m = R) (w : World) :
    Calls Tryz.prog 56 #[.int .i64 s, .int .i64 m] w fun e w' => e = .returned (.int .i64 R) ∧ ∃ q, w' = w.drewN q := by
  by_cases hm : m < 1
  · have h0 : R = 0 := by rw [← hR]; unfold nearZ; rw [if_pos hm]
    subst h0
    clear hR
    go_enter Tryz.func56, Tryz.ntmps56
    go_wp2_with fail
    go_ret
    exact ⟨rfl, 0, rfl⟩
  · have hm1 : 1 ≤ m := by omega
    have hm9 : ¬ m = 0 := by omega
    by_cases hs : s < 0
    · obtain ⟨z, hz⟩ : ∃ z, z = -s := ⟨_, rfl⟩
      have hz0 : 0 ≤ z ∧ z ≤ 4611686018427387904 := by omega
      have hzr : (2 * z + m) / (2 * m) = if m - z % m ≤ z % m then z / m + 1 else z / m := near_way hm1 hz0.1
      have hRz : R = -((2 * z + m) / (2 * m)) := by
        rw [← hR, hz]; unfold nearZ; rw [if_neg hm, if_pos hs]
      rw [hzr] at hRz
      have r1 : 0 ≤ z % m := Int.emod_nonneg _ (by omega)
      have r2 : z % m < m := Int.emod_lt_of_pos _ (by omega)
      have q1 : 0 ≤ z / m := Int.ediv_nonneg hz0.1 (by omega)
      have q2 : z / m ≤ z := Int.ediv_le_self _ hz0.1
      have e : s = -z := by omega
      have d1 : s.tdiv m = -(z / m) := by rw [e, Int.neg_tdiv, Int.tdiv_eq_ediv_of_nonneg hz0.1]
      have d2 : s.tmod m = -(z % m) := by rw [e, Int.neg_tmod, Int.tmod_eq_emod_of_nonneg hz0.1]
      generalize z / m = q at hRz q1 q2 d1
      generalize z % m = r at hRz r1 r2 d2
      obtain ⟨q', hq'⟩ : ∃ q', -q = q' := ⟨_, rfl⟩
      obtain ⟨r', hr'⟩ : ∃ r', -r = r' := ⟨_, rfl⟩
      rw [hq'] at d1
      rw [hr'] at d2
      have w1 : IntKind.i64.wrap q' = q' := IntWalk.i64_in _ (by omega)
      have w2 : IntKind.i64.wrap r' = r' := IntWalk.i64_in _ (by omega)
      have w3 : IntKind.i64.wrap (m + r') = m + r' := IntWalk.i64_in _ (by omega)
      have w4 : IntKind.i64.wrap (q' - 1) = q' - 1 := IntWalk.i64_in _ (by omega)
      have w5 : IntKind.i64.wrap (-r') = -r' := IntWalk.i64_in _ (by omega)
      have w6 : ¬ r' > 0 := by omega
      clear hR hzr hz0
      by_cases hr : m - r ≤ r
      · have hRq : R = q' - 1 := by rw [hRz, if_pos hr]; omega
        have t1 : r' < 0 := by omega
        have t2 : -r' ≥ m + r' := by omega
        subst hRq
        clear hRz hq' hr' hz e hr r1 r2 q1 q2
        go_enter Tryz.func56, Tryz.ntmps56
        go_wp2_with fail
        go_quiet (fail)
        go_wp2_with fail
        go_ret
        exact ⟨rfl, _, rfl⟩
      · have hRq : R = q' := by rw [hRz, if_neg hr]; omega
        subst hRq
        by_cases t1 : r' < 0
        · have t2 : ¬ -r' ≥ m + r' := by omega
          clear hRz hr' hz e hr r1 r2 q1 q2
          go_enter Tryz.func56, Tryz.ntmps56
          go_wp2_with fail
          go_quiet (fail)
          go_wp2_with fail
          go_ret
          exact ⟨rfl, _, rfl⟩
        · clear hRz hr' hz e hr r1 r2 q1 q2
          go_enter Tryz.func56, Tryz.ntmps56
          go_wp2_with fail
          go_quiet (fail)
          go_wp2_with fail
          go_ret
          exact ⟨rfl, _, rfl⟩
    · have hz0 : 0 ≤ s := by omega
      have hzr : (2 * s + m) / (2 * m) = if m - s % m ≤ s % m then s / m + 1 else s / m := near_way hm1 hz0
      have hRz : R = (2 * s + m) / (2 * m) := by
        rw [← hR]; unfold nearZ; rw [if_neg hm, if_neg hs]
      rw [hzr] at hRz
      have r1 : 0 ≤ s % m := Int.emod_nonneg _ (by omega)
      have r2 : s % m < m := Int.emod_lt_of_pos _ (by omega)
      have q1 : 0 ≤ s / m := Int.ediv_nonneg hz0 (by omega)
      have q2 : s / m ≤ s := Int.ediv_le_self _ hz0
      have d1 : s.tdiv m = s / m := Int.tdiv_eq_ediv_of_nonneg hz0
      have d2 : s.tmod m = s % m := Int.tmod_eq_emod_of_nonneg hz0
      generalize s / m = q at hRz q1 q2 d1
      generalize s % m = r at hRz r1 r2 d2
      have w1 : IntKind.i64.wrap q = q := IntWalk.i64_in _ (by omega)
      have w2 : IntKind.i64.wrap r = r := IntWalk.i64_in _ (by omega)
      have w3 : IntKind.i64.wrap (m - r) = m - r := IntWalk.i64_in _ (by omega)
      have w4 : IntKind.i64.wrap (q + 1) = q + 1 := IntWalk.i64_in _ (by omega)
      have w6 : ¬ r < 0 := by omega
      clear hR hzr
      by_cases hr : m - r ≤ r
      · have hRq : R = q + 1 := by rw [hRz, if_pos hr]
        have t1 : r > 0 := by omega
        have t2 : r ≥ m - r := by omega
        subst hRq
        clear hRz hr r1 r2 q1 q2 hz0
        go_enter Tryz.func56, Tryz.ntmps56
        go_wp2_with fail
        go_quiet (fail)
        go_wp2_with fail
        go_ret
        exact ⟨rfl, _, rfl⟩
      · have hRq : R = q := by rw [hRz, if_neg hr]
        subst hRq
        by_cases t1 : r > 0
        · have t2 : ¬ r ≥ m - r := by omega
          clear hRz hr r1 r2 q1 q2 hz0
          go_enter Tryz.func56, Tryz.ntmps56
          go_wp2_with fail
          go_quiet (fail)
          go_wp2_with fail
          go_ret
          exact ⟨rfl, _, rfl⟩
        · clear hRz hr r1 r2 q1 q2 hz0
          go_enter Tryz.func56, Tryz.ntmps56
          go_wp2_with fail
          go_quiet (fail)
          go_wp2_with fail
          go_ret
          exact ⟨rfl, _, rfl⟩
end Go.Proofs.YtoghpoopgkahiaaGreatDoor.CPool
end
section
namespace Go.Proofs.YtoghpoopgkahiaaGreatDoor.CJoin
open Go Go.ChangeShapes Go.WideShapes Go.ChangeAt Go.RowKit Go.Deep
open Plain CSat CFix CShape CTensor CConv
set_option linter.unusedVariables false
/-- the limits of a node's numbers. -/
def NBd (Z Y m1 z1 m2 z2 lo hi : Int) : Prop := (-128 ≤ Z ∧ Z ≤ 127) ∧ (-128 ≤ Y ∧ Y ≤ 127) ∧ (-2147483648 ≤ m1 ∧ m1 ≤ 2147483647) ∧ (-128 ≤ z1 ∧ z1 ≤ 127) ∧ (-2147483648 ≤ m2 ∧ m2 ≤ 2147483647) ∧ (-128 ≤ z2 ∧ z2 ≤ 127) ∧ (-128 ≤ lo ∧ lo ≤ 127) ∧ (-128 ≤ hi ∧ hi ≤ 127)
/-- two numbers as one. -/
def oneZ (x y Z Y m1 s1 z1 m2 s2 lo hi : Int) : Int :=
  if (rightB m1 s1 && rightB m2 s2) = true then clampZ (roundZ ((x - Z) * m1) s1.toNat + roundZ ((y - Y) * m2) s2.toNat + z1) lo hi else 0
theorem clampZ_bd (v lo hi : Int) (hl1 : -128 ≤ lo) (hl2 : lo ≤ 127) (hh1 : -128 ≤ hi) (hh2 : hi ≤ 127) : -128 ≤ clampZ v lo hi ∧ clampZ v lo hi ≤ 127 := by
  unfold clampZ; split <;> (try split) <;> omega
theorem rightB_yes {m s : Int} (h : rightB m s = true) : 0 < m ∧ 0 ≤ s ∧ s ≤ 62 := by simpa [rightB] using h
theorem jclamp_to (v lo hi r : Int) (h : clampZ v lo hi = r) (hl1 : -128 ≤ lo) (hl2 : lo ≤ 127) (hh1 : -128 ≤ hi) (hh2 : hi ≤ 127) (w : World) :
    Calls Tryz.prog 105 #[.int .i64 v, .int .i8 lo, .int .i8 hi] w fun e w' => e = .returned (.int .i8 r) ∧ w = w' := by
  subst h
  by_cases h1 : v < lo
  · go_enter Tryz.func105, Tryz.ntmps105
    go_wp2
    go_ret
    exact ⟨ret_int (by exact clampZ_lo (by omega)), rfl⟩
  · by_cases h2 : v > hi
    · go_enter Tryz.func105, Tryz.ntmps105
      go_wp2
      go_ret
      exact ⟨ret_int (by exact clampZ_hi (by omega) (by omega)), rfl⟩
    · go_enter Tryz.func105, Tryz.ntmps105
      go_wp2
      go_ret
      exact ⟨ret_int (by exact clampZ_in (by omega) (by omega)), rfl⟩
theorem term_abs {x Z m : Int} (hx1 : -128 ≤ x) (hx2 : x ≤ 127) (hz1 : -128 ≤ Z) (hz2 : Z ≤ 127) (hm1 : 0 < m) (hm2 : m ≤ 2147483647) : -547608329985 ≤ (x - Z) * m ∧ (x - Z) * m ≤ 547608329985 := by
  have h1 : (x - Z) * m ≤ 255 * 2147483647 := by
    by_cases h : 0 ≤ x - Z
    · exact Int.mul_le_mul (by omega) (by omega) (by omega) (by omega)
    · exact Int.le_trans (Int.mul_nonpos_of_nonpos_of_nonneg (by omega) (by omega)) (by omega)
  have h2 : (Z - x) * m ≤ 255 * 2147483647 := by
    by_cases h : 0 ≤ Z - x
    · exact Int.mul_le_mul (by omega) (by omega) (by omega) (by omega)
    · exact Int.le_trans (Int.mul_nonpos_of_nonpos_of_nonneg (by omega) (by omega)) (by omega)
  have h3 : (Z - x) * m = -((x - Z) * m) := by rw [← Int.neg_mul]; congr 1; omega
  omega
theorem round_term {x Z m s : Int} (hx1 : -128 ≤ x) (hx2 : x ≤ 127) (hz1 : -128 ≤ Z) (hz2 : Z ≤ 127) (hm2 : m ≤ 2147483647) (h : rightB m s = true) : -547608329985 ≤ roundZ ((x - Z) * m) s.toNat ∧ roundZ ((x - Z) * m) s.toNat ≤ 547608329985 := by
  obtain ⟨h1, h2, h3⟩ := rightB_yes h
  obtain ⟨b1, b2⟩ := term_abs hx1 hx2 hz1 hz2 h1 hm2
  have := round_abs ((x - Z) * m) s.toNat (by omega) (by omega) (by omega)
  omega
theorem scaled_to (x Z m s z t : Int) (hx1 : -128 ≤ x) (hx2 : x ≤ 127) (hz1 : -128 ≤ Z) (hz2 : Z ≤ 127) (hm2 : m ≤ 2147483647) (h : rightB m s = true) (ht : roundZ ((x - Z) * m) s.toNat = t) (w : World) :
    Calls Tryz.prog 106 #[.int .i8 x, .int .i8 Z, .agg #[.int .i32 m, .int .i64 s, .int .i8 z]] w fun e w' => e = .returned (.int .i64 t) ∧ Below w.heap.size w w' := by
  obtain ⟨h1, h2, h3⟩ := rightB_yes h
  obtain ⟨y, hy⟩ : ∃ y, x - Z = y := ⟨_, rfl⟩
  have hw : IntKind.i32.wrap (x - Z) = y := by rw [IntWalk.i32_in _ (by omega), hy]
  have e1 : IntKind.i32.wrap x = x := IntWalk.i32_in _ (by omega)
  have e2 : IntKind.i32.wrap Z = Z := IntWalk.i32_in _ (by omega)
  have y1 : -2147483648 ≤ y := by omega
  have y2 : y ≤ 2147483647 := by omega
  have m1 : -2147483648 ≤ m := by omega
  rw [hy] at ht
  have HT := Lib.hid ht
  clear hy ht h
  go_enter Tryz.func106, Tryz.ntmps106
  go_wp2_with (go_at_call 139; refine (scale_int y m s t h2 h3 y1 y2 m1 hm2 HT.out _).mono ?_; rintro e w' ⟨rfl, rfl⟩)
  go_ret
  exact ⟨rfl, (Below.refl _ _).alloc (Nat.le_refl _) _⟩
theorem isRight_to (m s z : Int) (w : World) : Calls Tryz.prog 50 #[.agg #[.int .i32 m, .int .i64 s, .int .i8 z]] w fun e w' => e = .returned (.bool (rightB m s)) ∧ Below w.heap.size w w' := by
  cases h : rightB m s
  · exact isRight_no m s z h w
  · exact isRight_yes m s z h w
set_option maxHeartbeats 2000000 in
theorem scales_to (x0 x1 x2 : Value) (K S P O Z Y : Int) (WA BA : Option Addr) (nW cW nB cB : Nat) (m1 s1 z1 m2 s2 z2 lo hi : Int) (w : World) :
    Calls Tryz.prog 57 #[.agg #[x0, x1, x2, .int .i64 K, .int .i64 S, .int .i64 P, .int .i64 O, .int .i8 Z, .int .i8 Y, .slice WA nW cW, .slice BA nB cB, .int .i32 m1, .int .i64 s1, .int .i8 z1, .int .i32 m2, .int .i64 s2, .int .i8 z2, .int .i8 lo, .int .i8 hi]] w fun e w' => e = .returned (.bool (rightB m1 s1 && rightB m2 s2)) ∧ Below w.heap.size w w' := by
  cases h1 : rightB m1 s1 <;> cases h2 : rightB m2 s2
  · have H1 := Lib.hid h1
    have H2 := Lib.hid h2
    clear h1 h2
    go_enter Tryz.func57, Tryz.ntmps57
    go_wp2_with (first
      | (go_at_call 50
         have hal : Below w.heap.size w (w.alloc (.cells #[x0, x1, x2, .int .i64 K, .int .i64 S, .int .i64 P, .int .i64 O, .int .i8 Z, .int .i8 Y, .slice WA nW cW, .slice BA nB cB, .int .i32 m1, .int .i64 s1, .int .i8 z1, .int .i32 m2, .int .i64 s2, .int .i8 z2, .int .i8 lo, .int .i8 hi] 28)) := (Below.refl _ _).alloc (by first | exact Nat.le_refl _ | (simp; done) | (simp; omega)) _
         refine (isRight_to _ _ _ _).mono ?_
         rintro e w1 ⟨rfl, hb⟩
         have hh : Below w.heap.size w w1 := hal.trans (hb.mono hal.size)
         have qTN := (NodeAt.new x0 x1 x2 (.int .i8 Y) (.int .i32 m1) (.int .i64 s1) (.int .i8 z1) (.int .i32 m2) (.int .i64 s2) (.int .i8 z2) (.int .i8 lo) (.int .i8 hi) K S P O Z WA BA nW cW nB cB 28) w
         try simp only [World.size_alloc] at qTN
         have TN := Lib.hid (qTN.below (by first | (simp; done) | (simp; omega)) hb)
         have yTN : w.heap.size < w1.heap.size := by have := hb.size; simp at this; omega
         clear qTN
         have HBW : Hid (Below w.heap.size w w1) := Lib.hid hh
         rw [H1.out]
         have n14 := TN.out.at 14 _ rfl
         have n15 := TN.out.at 15 _ rfl
         have n16 := TN.out.at 16 _ rfl
         clear hb hh hal))
    go_ret
    exact ⟨rfl, HBW.out⟩
  · have H1 := Lib.hid h1
    have H2 := Lib.hid h2
    clear h1 h2
    go_enter Tryz.func57, Tryz.ntmps57
    go_wp2_with (first
      | (go_at_call 50
         have hal : Below w.heap.size w (w.alloc (.cells #[x0, x1, x2, .int .i64 K, .int .i64 S, .int .i64 P, .int .i64 O, .int .i8 Z, .int .i8 Y, .slice WA nW cW, .slice BA nB cB, .int .i32 m1, .int .i64 s1, .int .i8 z1, .int .i32 m2, .int .i64 s2, .int .i8 z2, .int .i8 lo, .int .i8 hi] 28)) := (Below.refl _ _).alloc (by first | exact Nat.le_refl _ | (simp; done) | (simp; omega)) _
         refine (isRight_to _ _ _ _).mono ?_
         rintro e w1 ⟨rfl, hb⟩
         have hh : Below w.heap.size w w1 := hal.trans (hb.mono hal.size)
         have qTN := (NodeAt.new x0 x1 x2 (.int .i8 Y) (.int .i32 m1) (.int .i64 s1) (.int .i8 z1) (.int .i32 m2) (.int .i64 s2) (.int .i8 z2) (.int .i8 lo) (.int .i8 hi) K S P O Z WA BA nW cW nB cB 28) w
         try simp only [World.size_alloc] at qTN
         have TN := Lib.hid (qTN.below (by first | (simp; done) | (simp; omega)) hb)
         have yTN : w.heap.size < w1.heap.size := by have := hb.size; simp at this; omega
         clear qTN
         have HBW : Hid (Below w.heap.size w w1) := Lib.hid hh
         rw [H1.out]
         have n14 := TN.out.at 14 _ rfl
         have n15 := TN.out.at 15 _ rfl
         have n16 := TN.out.at 16 _ rfl
         clear hb hh hal))
    go_ret
    exact ⟨rfl, HBW.out⟩
  · have H1 := Lib.hid h1
    have H2 := Lib.hid h2
    clear h1 h2
    go_enter Tryz.func57, Tryz.ntmps57
    go_wp2_with (first
      | (go_at_call 50
         have hal : Below w.heap.size w (w.alloc (.cells #[x0, x1, x2, .int .i64 K, .int .i64 S, .int .i64 P, .int .i64 O, .int .i8 Z, .int .i8 Y, .slice WA nW cW, .slice BA nB cB, .int .i32 m1, .int .i64 s1, .int .i8 z1, .int .i32 m2, .int .i64 s2, .int .i8 z2, .int .i8 lo, .int .i8 hi] 28)) := (Below.refl _ _).alloc (by first | exact Nat.le_refl _ | (simp; done) | (simp; omega)) _
         refine (isRight_to _ _ _ _).mono ?_
         rintro e w1 ⟨rfl, hb⟩
         have hh : Below w.heap.size w w1 := hal.trans (hb.mono hal.size)
         have qTN := (NodeAt.new x0 x1 x2 (.int .i8 Y) (.int .i32 m1) (.int .i64 s1) (.int .i8 z1) (.int .i32 m2) (.int .i64 s2) (.int .i8 z2) (.int .i8 lo) (.int .i8 hi) K S P O Z WA BA nW cW nB cB 28) w
         try simp only [World.size_alloc] at qTN
         have TN := Lib.hid (qTN.below (by first | (simp; done) | (simp; omega)) hb)
         have yTN : w.heap.size < w1.heap.size := by have := hb.size; simp at this; omega
         clear qTN
         have HBW : Hid (Below w.heap.size w w1) := Lib.hid hh
         rw [H1.out]
         have n14 := TN.out.at 14 _ rfl
         have n15 := TN.out.at 15 _ rfl
         have n16 := TN.out.at 16 _ rfl
         clear hb hh hal)
      | (go_at_call 50
         have hal : Below w1.heap.size w1 w1 := Below.refl _ _
         refine (isRight_to _ _ _ _).mono ?_
         rintro e w2 ⟨rfl, hb⟩
         have hh : Below w1.heap.size w1 w2 := hal.trans (hb.mono hal.size)
         replace TN := Lib.hid (TN.out.below yTN hh)
         replace yTN := Nat.lt_of_lt_of_le yTN hh.size
         replace HBW := Lib.hid (HBW.out.trans (hh.mono HBW.out.size))
         clear n14 n15 n16
         rw [H2.out]
         have n14 := TN.out.at 14 _ rfl
         have n15 := TN.out.at 15 _ rfl
         have n16 := TN.out.at 16 _ rfl
         clear hb hh hal))
    go_ret
    exact ⟨rfl, HBW.out⟩
  · have H1 := Lib.hid h1
    have H2 := Lib.hid h2
    clear h1 h2
    go_enter Tryz.func57, Tryz.ntmps57
    go_wp2_with (first
      | (go_at_call 50
         have hal : Below w.heap.size w (w.alloc (.cells #[x0, x1, x2, .int .i64 K, .int .i64 S, .int .i64 P, .int .i64 O, .int .i8 Z, .int .i8 Y, .slice WA nW cW, .slice BA nB cB, .int .i32 m1, .int .i64 s1, .int .i8 z1, .int .i32 m2, .int .i64 s2, .int .i8 z2, .int .i8 lo, .int .i8 hi] 28)) := (Below.refl _ _).alloc (by first | exact Nat.le_refl _ | (simp; done) | (simp; omega)) _
         refine (isRight_to _ _ _ _).mono ?_
         rintro e w1 ⟨rfl, hb⟩
         have hh : Below w.heap.size w w1 := hal.trans (hb.mono hal.size)
         have qTN := (NodeAt.new x0 x1 x2 (.int .i8 Y) (.int .i32 m1) (.int .i64 s1) (.int .i8 z1) (.int .i32 m2) (.int .i64 s2) (.int .i8 z2) (.int .i8 lo) (.int .i8 hi) K S P O Z WA BA nW cW nB cB 28) w
         try simp only [World.size_alloc] at qTN
         have TN := Lib.hid (qTN.below (by first | (simp; done) | (simp; omega)) hb)
         have yTN : w.heap.size < w1.heap.size := by have := hb.size; simp at this; omega
         clear qTN
         have HBW : Hid (Below w.heap.size w w1) := Lib.hid hh
         rw [H1.out]
         have n14 := TN.out.at 14 _ rfl
         have n15 := TN.out.at 15 _ rfl
         have n16 := TN.out.at 16 _ rfl
         clear hb hh hal)
      | (go_at_call 50
         have hal : Below w1.heap.size w1 w1 := Below.refl _ _
         refine (isRight_to _ _ _ _).mono ?_
         rintro e w2 ⟨rfl, hb⟩
         have hh : Below w1.heap.size w1 w2 := hal.trans (hb.mono hal.size)
         replace TN := Lib.hid (TN.out.below yTN hh)
         replace yTN := Nat.lt_of_lt_of_le yTN hh.size
         replace HBW := Lib.hid (HBW.out.trans (hh.mono HBW.out.size))
         clear n14 n15 n16
         rw [H2.out]
         have n14 := TN.out.at 14 _ rfl
         have n15 := TN.out.at 15 _ rfl
         have n16 := TN.out.at 16 _ rfl
         clear hb hh hal))
    go_ret
    exact ⟨rfl, HBW.out⟩
end Go.Proofs.YtoghpoopgkahiaaGreatDoor.CJoin
end
