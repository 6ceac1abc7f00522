/- Texts of this seat, one behind the other: KindSameC, KindSameD, KindPlainN, KindsPlainW. -/
import Derived.Deep.CutRange
import Derived.Deep.RegionHeld
import Derived.Test.YtamcdpkakdiggaaDoorGK1
import Derived.Test.YtamcdpkakdiggaaDoorGK5
import Derived.Test.YtamcdpkakdiggaaDoorGK6
import Derived.Test.YtamcdpkakdiggaaDoorGK12
import Derived.Test.YtamcdpkakdiggaaDoorGK13
section
namespace Go.Proofs.YtamcdpkakdiggaaDoor.CKind
open Go Go.ChangeShapes Go.WideShapes Go.ChangeAt Go.RowKit Go.Deep
open Plain CSat CShape CTensor CConv
set_option linter.unusedVariables false
set_option linter.unusedSimpArgs false
set_option maxRecDepth 100000 in
set_option maxHeartbeats 8000000 in
theorem nsame_w (x y : Nd) (e0 : x.kd = y.kd) (e1 : x.na = y.na) (e2 : x.nb = y.nb) (e3 : x.K = y.K) (e4 : x.S = y.S) (e5 : x.P = y.P) (e6 : x.O = y.O) (e10 : x.Z = y.Z) (e11 : x.Y = y.Y) (e12 : x.lo = y.lo) (e13 : x.hi = y.hi) (eq0 : (x.m1 == y.m1 && (x.s1 == y.s1 && x.z1 == y.z1)) = true) (eq1 : (x.m2 == y.m2 && (x.s2 == y.s2 && x.z2 == y.z2)) = true) (hw : x.nW ≠ y.nW) (w : World) :
    Calls Tryd.prog 16 #[.agg x.val, .agg y.val] w fun e w' => e = .returned (.bool false) ∧ Below w.heap.size w w' := by
  have b0 : (x.kd != y.kd) = false := by simpa using e0
  have c0 : (x.kd == y.kd) = true := by simpa using e0
  have b1 : (x.na != y.na) = false := by simpa using e1
  have c1 : (x.na == y.na) = true := by simpa using e1
  have b2 : (x.nb != y.nb) = false := by simpa using e2
  have c2 : (x.nb == y.nb) = true := by simpa using e2
  have b3 : (x.K != y.K) = false := by simpa using e3
  have c3 : (x.K == y.K) = true := by simpa using e3
  have b4 : (x.S != y.S) = false := by simpa using e4
  have c4 : (x.S == y.S) = true := by simpa using e4
  have b5 : (x.P != y.P) = false := by simpa using e5
  have c5 : (x.P == y.P) = true := by simpa using e5
  have b6 : (x.O != y.O) = false := by simpa using e6
  have c6 : (x.O == y.O) = true := by simpa using e6
  have b10 : (x.Z != y.Z) = false := by simpa using e10
  have c10 : (x.Z == y.Z) = true := by simpa using e10
  have b11 : (x.Y != y.Y) = false := by simpa using e11
  have c11 : (x.Y == y.Y) = true := by simpa using e11
  have b12 : (x.lo != y.lo) = false := by simpa using e12
  have c12 : (x.lo == y.lo) = true := by simpa using e12
  have b13 : (x.hi != y.hi) = false := by simpa using e13
  have c13 : (x.hi == y.hi) = true := by simpa using e13
  have HQ0 := eqQuantK x.m1 x.s1 x.z1 y.m1 y.s1 y.z1
  rw [eq0] at HQ0
  have hgq0 := Tryd.eqGuardType26
  have HQ1 := eqQuantK x.m2 x.s2 x.z2 y.m2 y.s2 y.z2
  rw [eq1] at HQ1
  have hgq1 := Tryd.eqGuardType26
  clear e0 e1 e2 e3 e4 e5 e6 e10 e11 e12 e13 eq0 eq1
  have HW := Lib.hid hw
  clear hw
  unfold Nd.val
  go_enter Tryd.func16, Tryd.ntmps16
  go_wp2_with (go_at_call 39; (with_reducible refine (ksame_len _ _ _ _ _ _ HW.out _).mono ?_); rintro e1 w1 ⟨rfl, rfl⟩)
  go_ret
  exact ⟨rfl, ((Below.refl _ _).alloc (Nat.le_refl _) _).alloc (by simp) _⟩
set_option maxRecDepth 100000 in
set_option maxHeartbeats 8000000 in
theorem nsame_u (x y : Nd) (w : World) {zs us : List Int} {B1 B2 B3 B4 : Nat} (e0 : x.kd = y.kd) (e1 : x.na = y.na) (e2 : x.nb = y.nb) (e3 : x.K = y.K) (e4 : x.S = y.S) (e5 : x.P = y.P) (e6 : x.O = y.O) (e10 : x.Z = y.Z) (e11 : x.Y = y.Y) (e12 : x.lo = y.lo) (e13 : x.hi = y.hi) (eq0 : (x.m1 == y.m1 && (x.s1 == y.s1 && x.z1 == y.z1)) = true) (eq1 : (x.m2 == y.m2 && (x.s2 == y.s2 && x.z2 == y.z2)) = true) (hw : x.nW = y.nW) (hz : x.nW = zs.length) (hl : x.nW ≤ 1000000) (ha : Kit.Rd w B1 x.WA (zs.map (.int .i8))) (hb : Kit.Rd w B2 y.WA (zs.map (.int .i8))) (hB1 : B1 ≤ w.heap.size) (hB2 : B2 ≤ w.heap.size) (hu : x.nB ≠ y.nB) :
    Calls Tryd.prog 16 #[.agg x.val, .agg y.val] w fun e w' => e = .returned (.bool false) ∧ Below w.heap.size w w' := by
  have b0 : (x.kd != y.kd) = false := by simpa using e0
  have c0 : (x.kd == y.kd) = true := by simpa using e0
  have b1 : (x.na != y.na) = false := by simpa using e1
  have c1 : (x.na == y.na) = true := by simpa using e1
  have b2 : (x.nb != y.nb) = false := by simpa using e2
  have c2 : (x.nb == y.nb) = true := by simpa using e2
  have b3 : (x.K != y.K) = false := by simpa using e3
  have c3 : (x.K == y.K) = true := by simpa using e3
  have b4 : (x.S != y.S) = false := by simpa using e4
  have c4 : (x.S == y.S) = true := by simpa using e4
  have b5 : (x.P != y.P) = false := by simpa using e5
  have c5 : (x.P == y.P) = true := by simpa using e5
  have b6 : (x.O != y.O) = false := by simpa using e6
  have c6 : (x.O == y.O) = true := by simpa using e6
  have b10 : (x.Z != y.Z) = false := by simpa using e10
  have c10 : (x.Z == y.Z) = true := by simpa using e10
  have b11 : (x.Y != y.Y) = false := by simpa using e11
  have c11 : (x.Y == y.Y) = true := by simpa using e11
  have b12 : (x.lo != y.lo) = false := by simpa using e12
  have c12 : (x.lo == y.lo) = true := by simpa using e12
  have b13 : (x.hi != y.hi) = false := by simpa using e13
  have c13 : (x.hi == y.hi) = true := by simpa using e13
  have HQ0 := eqQuantK x.m1 x.s1 x.z1 y.m1 y.s1 y.z1
  rw [eq0] at HQ0
  have hgq0 := Tryd.eqGuardType26
  have HQ1 := eqQuantK x.m2 x.s2 x.z2 y.m2 y.s2 y.z2
  rw [eq1] at HQ1
  have hgq1 := Tryd.eqGuardType26
  clear e0 e1 e2 e3 e4 e5 e6 e10 e11 e12 e13 eq0 eq1
  have HU := Lib.hid hu
  clear hu
  have HZ := Lib.hid hz
  have HL := Lib.hid hl
  have HA := Lib.hid ha
  have HB := Lib.hid hb
  have HB1 := Lib.hid hB1
  have HB2 := Lib.hid hB2
  obtain ⟨kd, na, nb, K, S, P, O, Z, Y, WA, nW, cW, BA, nB, cB, m1, s1, z1, m2, s2, z2, lo, hi⟩ := x
  obtain ⟨kd', na', nb', K', S', P', O', Z', Y', WA', nW', cW', BA', nB', cB', m1', s1', z1', m2', s2', z2', lo', hi'⟩ := y
  simp only at *
  subst hw
  clear hz hl ha hb hB1 hB2
  unfold Nd.val
  go_enter Tryd.func16, Tryd.ntmps16
  go_wp2_with (first
    | (go_at_call 39; (with_reducible refine (ksame_yes _ _ zs _ _ _ HZ.out HL.out _ (HA.out.below ((((Below.refl _ _).alloc (Nat.le_refl _) _).alloc (by simp) _).mono HB1.out)) (HB.out.below ((((Below.refl _ _).alloc (Nat.le_refl _) _).alloc (by simp) _).mono HB2.out))).mono ?_); rintro e1 w1 ⟨rfl, m1, rfl⟩)
    | (go_at_call 40; (with_reducible refine (ksame32_len _ _ _ _ _ _ HU.out _).mono ?_); rintro e2 w2 ⟨rfl, rfl⟩))
  go_ret
  exact ⟨rfl, Kit.below_drewN (((Below.refl _ _).alloc (Nat.le_refl _) _).alloc (by simp) _) _⟩
set_option maxRecDepth 100000 in
set_option maxHeartbeats 8000000 in
theorem nsame_yes (x y : Nd) (w : World) {zs us : List Int} {B1 B2 B3 B4 : Nat} (e0 : x.kd = y.kd) (e1 : x.na = y.na) (e2 : x.nb = y.nb) (e3 : x.K = y.K) (e4 : x.S = y.S) (e5 : x.P = y.P) (e6 : x.O = y.O) (e10 : x.Z = y.Z) (e11 : x.Y = y.Y) (e12 : x.lo = y.lo) (e13 : x.hi = y.hi) (eq0 : (x.m1 == y.m1 && (x.s1 == y.s1 && x.z1 == y.z1)) = true) (eq1 : (x.m2 == y.m2 && (x.s2 == y.s2 && x.z2 == y.z2)) = true) (hw : x.nW = y.nW) (hz : x.nW = zs.length) (hl : x.nW ≤ 1000000) (ha : Kit.Rd w B1 x.WA (zs.map (.int .i8))) (hb : Kit.Rd w B2 y.WA (zs.map (.int .i8))) (hB1 : B1 ≤ w.heap.size) (hB2 : B2 ≤ w.heap.size) (hu : x.nB = y.nB) (hv : x.nB = us.length) (hk : x.nB ≤ 1000000) (hc : Kit.Rd w B3 x.BA (us.map (.int .i32))) (hd : Kit.Rd w B4 y.BA (us.map (.int .i32))) (hB3 : B3 ≤ w.heap.size) (hB4 : B4 ≤ w.heap.size) :
    Calls Tryd.prog 16 #[.agg x.val, .agg y.val] w fun e w' => e = .returned (.bool true) ∧ Below w.heap.size w w' := by
  have b0 : (x.kd != y.kd) = false := by simpa using e0
  have c0 : (x.kd == y.kd) = true := by simpa using e0
  have b1 : (x.na != y.na) = false := by simpa using e1
  have c1 : (x.na == y.na) = true := by simpa using e1
  have b2 : (x.nb != y.nb) = false := by simpa using e2
  have c2 : (x.nb == y.nb) = true := by simpa using e2
  have b3 : (x.K != y.K) = false := by simpa using e3
  have c3 : (x.K == y.K) = true := by simpa using e3
  have b4 : (x.S != y.S) = false := by simpa using e4
  have c4 : (x.S == y.S) = true := by simpa using e4
  have b5 : (x.P != y.P) = false := by simpa using e5
  have c5 : (x.P == y.P) = true := by simpa using e5
  have b6 : (x.O != y.O) = false := by simpa using e6
  have c6 : (x.O == y.O) = true := by simpa using e6
  have b10 : (x.Z != y.Z) = false := by simpa using e10
  have c10 : (x.Z == y.Z) = true := by simpa using e10
  have b11 : (x.Y != y.Y) = false := by simpa using e11
  have c11 : (x.Y == y.Y) = true := by simpa using e11
  have b12 : (x.lo != y.lo) = false := by simpa using e12
  have c12 : (x.lo == y.lo) = true := by simpa using e12
  have b13 : (x.hi != y.hi) = false := by simpa using e13
  have c13 : (x.hi == y.hi) = true := by simpa using e13
  have HQ0 := eqQuantK x.m1 x.s1 x.z1 y.m1 y.s1 y.z1
  rw [eq0] at HQ0
  have hgq0 := Tryd.eqGuardType26
  have HQ1 := eqQuantK x.m2 x.s2 x.z2 y.m2 y.s2 y.z2
  rw [eq1] at HQ1
  have hgq1 := Tryd.eqGuardType26
  clear e0 e1 e2 e3 e4 e5 e6 e10 e11 e12 e13 eq0 eq1
  have HV := Lib.hid hv
  have HK := Lib.hid hk
  have HC := Lib.hid hc
  have HD := Lib.hid hd
  have HB3 := Lib.hid hB3
  have HB4 := Lib.hid hB4
  clear hv hk hc hd hB3 hB4
  have HZ := Lib.hid hz
  have HL := Lib.hid hl
  have HA := Lib.hid ha
  have HB := Lib.hid hb
  have HB1 := Lib.hid hB1
  have HB2 := Lib.hid hB2
  obtain ⟨kd, na, nb, K, S, P, O, Z, Y, WA, nW, cW, BA, nB, cB, m1, s1, z1, m2, s2, z2, lo, hi⟩ := x
  obtain ⟨kd', na', nb', K', S', P', O', Z', Y', WA', nW', cW', BA', nB', cB', m1', s1', z1', m2', s2', z2', lo', hi'⟩ := y
  simp only at *
  subst hw
  subst hu
  clear hz hl ha hb hB1 hB2
  unfold Nd.val
  go_enter Tryd.func16, Tryd.ntmps16
  go_wp2_with (first
    | (go_at_call 39; (with_reducible refine (ksame_yes _ _ zs _ _ _ HZ.out HL.out _ (HA.out.below ((((Below.refl _ _).alloc (Nat.le_refl _) _).alloc (by simp) _).mono HB1.out)) (HB.out.below ((((Below.refl _ _).alloc (Nat.le_refl _) _).alloc (by simp) _).mono HB2.out))).mono ?_); rintro e1 w1 ⟨rfl, m1, rfl⟩)
    | (go_at_call 40; (with_reducible refine (ksame32_yes _ _ us _ _ _ HV.out HK.out _ ((HC.out.below ((((Below.refl _ _).alloc (Nat.le_refl _) _).alloc (by simp) _).mono HB3.out)).drewN _) ((HD.out.below ((((Below.refl _ _).alloc (Nat.le_refl _) _).alloc (by simp) _).mono HB4.out)).drewN _)).mono ?_); rintro e2 w2 ⟨rfl, m2, rfl⟩))
  go_ret
  exact ⟨rfl, Kit.below_drewN (((Below.refl _ _).alloc (Nat.le_refl _) _).alloc (by simp) _) _⟩
end Go.Proofs.YtamcdpkakdiggaaDoor.CKind
end
section
namespace Go.Proofs.YtamcdpkakdiggaaDoor.CKind
open Go Go.ChangeShapes Go.WideShapes Go.ChangeAt Go.RowKit Go.Deep
open Plain CSat CShape CTensor CConv
set_option linter.unusedVariables false
set_option linter.unusedSimpArgs false
/-- nodes whose numbers are alike. -/
def Nd.Like (x y : Nd) : Prop :=
  x.kd = y.kd ∧ x.na = y.na ∧ x.nb = y.nb ∧ x.K = y.K ∧ x.S = y.S ∧ x.P = y.P ∧ x.O = y.O ∧ x.Z = y.Z ∧ x.Y = y.Y ∧ x.lo = y.lo ∧ x.hi = y.hi ∧ x.m1 = y.m1 ∧ x.s1 = y.s1 ∧ x.z1 = y.z1 ∧ x.m2 = y.m2 ∧ x.s2 = y.s2 ∧ x.z2 = y.z2
theorem Nd.like_refl (x : Nd) : x.Like x := ⟨rfl, rfl, rfl, rfl, rfl, rfl, rfl, rfl, rfl, rfl, rfl, rfl, rfl, rfl, rfl, rfl, rfl⟩
/-- numbers that are not alike. -/
theorem refNSame_ne (x y : Nd) (h : ¬ x.Like y) (w : World) :
    Calls Tryd.prog 16 #[.agg x.val, .agg y.val] w fun e w' => e = .returned (.bool false) ∧ Below w.heap.size w w' := by
  by_cases e0 : x.kd = y.kd
  rotate_left
  · exact nsame_a0 x y  e0 w
  by_cases e1 : x.na = y.na
  rotate_left
  · exact nsame_a1 x y e0 e1 w
  by_cases e2 : x.nb = y.nb
  rotate_left
  · exact nsame_a2 x y e0 e1 e2 w
  by_cases e3 : x.K = y.K
  rotate_left
  · exact nsame_a3 x y e0 e1 e2 e3 w
  by_cases e4 : x.S = y.S
  rotate_left
  · exact nsame_a4 x y e0 e1 e2 e3 e4 w
  by_cases e5 : x.P = y.P
  rotate_left
  · exact nsame_a5 x y e0 e1 e2 e3 e4 e5 w
  by_cases e6 : x.O = y.O
  rotate_left
  · exact nsame_a6 x y e0 e1 e2 e3 e4 e5 e6 w
  by_cases e10 : x.Z = y.Z
  rotate_left
  · exact nsame_b0 x y e0 e1 e2 e3 e4 e5 e6  e10 w
  by_cases e11 : x.Y = y.Y
  rotate_left
  · exact nsame_b1 x y e0 e1 e2 e3 e4 e5 e6 e10 e11 w
  by_cases e12 : x.lo = y.lo
  rotate_left
  · exact nsame_b2 x y e0 e1 e2 e3 e4 e5 e6 e10 e11 e12 w
  by_cases e13 : x.hi = y.hi
  rotate_left
  · exact nsame_b3 x y e0 e1 e2 e3 e4 e5 e6 e10 e11 e12 e13 w
  cases eq0 : (x.m1 == y.m1 && (x.s1 == y.s1 && x.z1 == y.z1))
  · exact nsame_b4 x y e0 e1 e2 e3 e4 e5 e6 e10 e11 e12 e13  eq0 w
  cases eq1 : (x.m2 == y.m2 && (x.s2 == y.s2 && x.z2 == y.z2))
  · exact nsame_b5 x y e0 e1 e2 e3 e4 e5 e6 e10 e11 e12 e13 eq0 eq1 w
  · exfalso
    apply h
    simp only [Bool.and_eq_true, beq_iff_eq] at eq0 eq1
    exact ⟨e0, e1, e2, e3, e4, e5, e6, e10, e11, e12, e13, eq0.1, eq0.2.1, eq0.2.2, eq1.1, eq1.2.1, eq1.2.2⟩
theorem refNSame_w (x y : Nd) (h : x.Like y) (hw : x.nW ≠ y.nW) (w : World) :
    Calls Tryd.prog 16 #[.agg x.val, .agg y.val] w fun e w' => e = .returned (.bool false) ∧ Below w.heap.size w w' := by
  obtain ⟨e0, e1, e2, e3, e4, e5, e6, e10, e11, e12, e13, q1, q2, q3, q4, q5, q6⟩ := h
  exact nsame_w x y e0 e1 e2 e3 e4 e5 e6 e10 e11 e12 e13 (by simp [q1, q2, q3]) (by simp [q4, q5, q6]) hw w
theorem refNSame_u (x y : Nd) (h : x.Like y) (w : World) {zs us : List Int} {B1 B2 B3 B4 : Nat} (hw : x.nW = y.nW) (hz : x.nW = zs.length) (hl : x.nW ≤ 1000000) (ha : Kit.Rd w B1 x.WA (zs.map (.int .i8))) (hb : Kit.Rd w B2 y.WA (zs.map (.int .i8))) (hB1 : B1 ≤ w.heap.size) (hB2 : B2 ≤ w.heap.size) (hu : x.nB ≠ y.nB) :
    Calls Tryd.prog 16 #[.agg x.val, .agg y.val] w fun e w' => e = .returned (.bool false) ∧ Below w.heap.size w w' := by
  obtain ⟨e0, e1, e2, e3, e4, e5, e6, e10, e11, e12, e13, q1, q2, q3, q4, q5, q6⟩ := h
  exact nsame_u x y w (zs := zs) (us := us) (B1 := B1) (B2 := B2) (B3 := B3) (B4 := B4) e0 e1 e2 e3 e4 e5 e6 e10 e11 e12 e13 (by simp [q1, q2, q3]) (by simp [q4, q5, q6]) hw hz hl ha hb hB1 hB2 hu
theorem refNSame_yes (x y : Nd) (h : x.Like y) (w : World) {zs us : List Int} {B1 B2 B3 B4 : Nat} (hw : x.nW = y.nW) (hz : x.nW = zs.length) (hl : x.nW ≤ 1000000) (ha : Kit.Rd w B1 x.WA (zs.map (.int .i8))) (hb : Kit.Rd w B2 y.WA (zs.map (.int .i8))) (hB1 : B1 ≤ w.heap.size) (hB2 : B2 ≤ w.heap.size) (hu : x.nB = y.nB) (hv : x.nB = us.length) (hk : x.nB ≤ 1000000) (hc : Kit.Rd w B3 x.BA (us.map (.int .i32))) (hd : Kit.Rd w B4 y.BA (us.map (.int .i32))) (hB3 : B3 ≤ w.heap.size) (hB4 : B4 ≤ w.heap.size) :
    Calls Tryd.prog 16 #[.agg x.val, .agg y.val] w fun e w' => e = .returned (.bool true) ∧ Below w.heap.size w w' := by
  obtain ⟨e0, e1, e2, e3, e4, e5, e6, e10, e11, e12, e13, q1, q2, q3, q4, q5, q6⟩ := h
  exact nsame_yes x y w (zs := zs) (us := us) (B1 := B1) (B2 := B2) (B3 := B3) (B4 := B4) e0 e1 e2 e3 e4 e5 e6 e10 e11 e12 e13 (by simp [q1, q2, q3]) (by simp [q4, q5, q6]) hw hz hl ha hb hB1 hB2 hu hv hk hc hd hB3 hB4
end Go.Proofs.YtamcdpkakdiggaaDoor.CKind
end
section
namespace Go.Proofs.YtamcdpkakdiggaaDoor.CKind
open Go Go.ChangeShapes Go.WideShapes Go.ChangeAt Go.RowKit Go.Deep
open Plain CSat CShape CTensor CConv
set_option linter.unusedVariables false
set_option linter.unusedSimpArgs false
theorem plain_more (x : Nd) (h : knownB x.kd = true) (A : Option Addr) (c : Nat) (A2 : Option Addr) (c2 : Nat) : (x.plainV A c A2 c2).moreB = false := by
  have hk : x.kd = 1 ∨ x.kd = 2 ∨ x.kd = 3 ∨ x.kd = 4 ∨ x.kd = 5 ∨ x.kd = 6 ∨ x.kd = 7 ∨ x.kd = 8 ∨ x.kd = 9 := by simp only [knownB, decide_eq_true_eq] at h; omega
  clear h
  rcases hk with h | h | h | h | h | h | h | h | h
  all_goals simp [Nd.plainV, Nd.ownK, Nd.moreB, sumsB, slidesB, scaledB, h]
theorem plain_again (x : Nd) (h : knownB x.kd = true) (A : Option Addr) (c : Nat) (A2 : Option Addr) (c2 : Nat) (A3 : Option Addr) (c3 : Nat) (A4 : Option Addr) (c4 : Nat) :
    ((x.plainV A c A2 c2).plainV A3 c3 A4 c4).Like (x.plainV A c A2 c2) ∧ ((x.plainV A c A2 c2).plainV A3 c3 A4 c4).nW = (x.plainV A c A2 c2).nW ∧ ((x.plainV A c A2 c2).plainV A3 c3 A4 c4).nB = (x.plainV A c A2 c2).nB := by
  have hk : x.kd = 1 ∨ x.kd = 2 ∨ x.kd = 3 ∨ x.kd = 4 ∨ x.kd = 5 ∨ x.kd = 6 ∨ x.kd = 7 ∨ x.kd = 8 ∨ x.kd = 9 := by simp only [knownB, decide_eq_true_eq] at h; omega
  clear h
  rcases hk with h | h | h | h | h | h | h | h | h
  all_goals simp [Nd.plainV, Nd.ownK, Nd.Like, sumsB, slidesB, scaledB, h]
theorem plain_like (x : Nd) (h : knownB x.kd = true) (hm : x.moreB = false) (A : Option Addr) (c : Nat) (A2 : Option Addr) (c2 : Nat) :
    (x.plainV A c A2 c2).Like x ∧ (x.plainV A c A2 c2).nW = x.nW ∧ (x.plainV A c A2 c2).nB = x.nB := by
  have hk : x.kd = 1 ∨ x.kd = 2 ∨ x.kd = 3 ∨ x.kd = 4 ∨ x.kd = 5 ∨ x.kd = 6 ∨ x.kd = 7 ∨ x.kd = 8 ∨ x.kd = 9 := by simp only [knownB, decide_eq_true_eq] at h; omega
  clear h
  rcases hk with h | h | h | h | h | h | h | h | h
  all_goals
    simp [Nd.moreB, sumsB, slidesB, scaledB, h] at hm
    simp [Nd.plainV, Nd.ownK, Nd.Like, sumsB, slidesB, scaledB, h]
    try omega
theorem plain_unlike (x : Nd) (h : knownB x.kd = true) (hm : x.moreB = true) (A : Option Addr) (c : Nat) (A2 : Option Addr) (c2 : Nat) :
    ¬ (x.plainV A c A2 c2).Like x ∨ (x.plainV A c A2 c2).nW ≠ x.nW ∨ (x.plainV A c A2 c2).nB ≠ x.nB := by
  have hk : x.kd = 1 ∨ x.kd = 2 ∨ x.kd = 3 ∨ x.kd = 4 ∨ x.kd = 5 ∨ x.kd = 6 ∨ x.kd = 7 ∨ x.kd = 8 ∨ x.kd = 9 := by simp only [knownB, decide_eq_true_eq] at h; omega
  clear h
  rcases hk with h | h | h | h | h | h | h | h | h
  all_goals
    simp [Nd.moreB, sumsB, slidesB, scaledB, h] at hm
    simp [Nd.plainV, Nd.ownK, Nd.Like, sumsB, slidesB, scaledB, h]
    try omega
theorem plain_small (x : Nd) (hx : x.Small) (A : Option Addr) (c : Nat) (A2 : Option Addr) (c2 : Nat) : (x.plainV A c A2 c2).Small := own_small x x.kd hx
theorem plain_code (x : Nd) (hm : x.moreB = false) : x.checkZ ≠ 2 ∨ x.hi < x.lo := by
  unfold Nd.checkZ
  rw [hm]
  by_cases h1 : x.kd < 1 ∨ 9 < x.kd
  · rw [if_pos h1]; left; decide
  rw [if_neg h1, if_neg (by decide)]
  split
  · left; decide
  split
  · rename_i h2
    right
    simp at h2
    exact h2.2
  · left; decide
/-- the lists that a kind tells. -/
def keepL (k : Int) (l : List Int) : List Int := if sumsB k then l else []
theorem keep_eq {k : Int} {l : List Int} (h : (keepL k l).length = l.length) : keepL k l = l := by
  unfold keepL at h ⊢
  cases hs : sumsB k
  · rw [hs] at h
    simp at h
    have := List.eq_nil_of_length_eq_zero h.symm
    simp [this]
  · simp
theorem own_lenW (x : Nd) (ws : List Int) (hw : ws.length = x.nW) : (keepL x.kd ws).length = (x.ownK x.kd).nW := by
  unfold keepL Nd.ownK
  cases sumsB x.kd <;> simp [hw]
theorem own_lenB (x : Nd) (bs : List Int) (hb : bs.length = x.nB) : (keepL x.kd bs).length = (x.ownK x.kd).nB := by
  unfold keepL Nd.ownK
  cases sumsB x.kd <;> simp [hb]
theorem own_leW (x : Nd) : (x.ownK x.kd).nW ≤ x.nW := by unfold Nd.ownK; cases sumsB x.kd <;> simp
theorem own_leB (x : Nd) : (x.ownK x.kd).nB ≤ x.nB := by unfold Nd.ownK; cases sumsB x.kd <;> simp
theorem own_rdW (x : Nd) (ws : List Int) {W : World} {B : Nat} (h : Kit.Rd W B x.WA (ws.map (.int .i8))) : Kit.Rd W B (x.ownK x.kd).WA ((keepL x.kd ws).map (.int .i8)) := by
  unfold keepL Nd.ownK
  cases sumsB x.kd
  · exact fun j u hu => by simp at hu
  · exact h
theorem own_rdB (x : Nd) (bs : List Int) {W : World} {B : Nat} (h : Kit.Rd W B x.BA (bs.map (.int .i32))) : Kit.Rd W B (x.ownK x.kd).BA ((keepL x.kd bs).map (.int .i32)) := by
  unfold keepL Nd.ownK
  cases sumsB x.kd
  · exact fun j u hu => by simp at hu
  · exact h
theorem keep_keep (k : Int) (l : List Int) : keepL k (keepL k l) = keepL k l := by unfold keepL; cases sumsB k <;> rfl
/-- a plain node is no longer a node with more. -/
theorem same_no (m x : Nd) (w : World) {zs ws : List Int} {B1 B2 : Nat} (h : ¬ m.Like x ∨ m.nW ≠ x.nW ∨ m.nB ≠ x.nB) (hz : m.nW = zs.length) (hl : m.nW ≤ 1000000) (ha : Kit.Rd w B1 m.WA (zs.map (.int .i8))) (hzw : zs.length = ws.length → zs = ws) (hxw : ws.length = x.nW) (hb : Kit.Rd w B2 x.WA (ws.map (.int .i8))) (hB1 : B1 ≤ w.heap.size) (hB2 : B2 ≤ w.heap.size) :
    Calls Tryd.prog 16 #[.agg m.val, .agg x.val] w fun e w' => e = .returned (.bool false) ∧ Below w.heap.size w w' := by
  by_cases h1 : m.Like x
  · by_cases h2 : m.nW = x.nW
    · have h3 : m.nB ≠ x.nB := by rcases h with h | h | h
                                  · exact absurd h1 h
                                  · exact absurd h2 h
                                  · exact h
      have e := hzw (by omega)
      subst e
      exact refNSame_u m x h1 w (zs := zs) (us := []) (B1 := B1) (B2 := B2) (B3 := 0) (B4 := 0) h2 hz hl ha hb hB1 hB2 h3
    · exact refNSame_w m x h1 h2 w
  · exact refNSame_ne m x h1 w
end Go.Proofs.YtamcdpkakdiggaaDoor.CKind
end
section
namespace Go.Proofs.YtamcdpkakdiggaaDoor.lawKindsPlain
open Go Go.ChangeShapes Go.WideShapes Go.ChangeAt Go.RowKit Go.Deep
open Plain CSat CShape CTensor CConv CKind
set_option linter.unusedVariables false
set_option linter.unusedSimpArgs false
set_option maxRecDepth 100000 in
set_option maxHeartbeats 8000000 in
theorem walk_no (x : Nd) (hx : x.Small) (hf : ¬ (x.nW ≤ 2000 ∧ x.nB ≤ 200)) (w : World) (hT : NamesIn w) :
    Calls Tryd.prog 5 #[.agg x.val] w fun e w' => e = .returned (.bool true) ∧ Below w.heap.size w w' := by
  have HT := Lib.hid hT
  have HF : Hid (∀ w, Calls Tryd.prog 6 #[.agg #[.int .i64 0, .int .i64 0, .int .i64 0, .slice none 0 0], .agg x.val] w fun e w' => e = .returned (.bool false) ∧ Below w.heap.size w w') := Lib.hid (fun w => few_no 0 0 0 none 0 0 (.int .i64 x.kd) (.int .i64 x.na) (.int .i64 x.nb) (.int .i8 x.Y) (.int .i32 x.m1) (.int .i64 x.s1) (.int .i8 x.z1) (.int .i32 x.m2) (.int .i64 x.s2) (.int .i8 x.z2) (.int .i8 x.lo) (.int .i8 x.hi) x.K x.S x.P x.O x.Z x.WA x.BA x.nW x.cW x.nB x.cB (fun h => hf h.2) w)
  have H0N := Lib.hid (NdAt.new x 28 w)
  have HB := Lib.hid ((Below.refl w.heap.size w).alloc (Nat.le_refl _) (.cells x.val 28))
  have HL : Hid (w.heap.size < (w.alloc (.cells x.val 28)).heap.size) := Lib.hid (by simp)
  clear hf hT
  go_enter Tryd.func5, Tryd.ntmps5
  go_upto_region 1 with fail
  generalize w.alloc (.cells x.val 28) = W0 at *
  go_wp2_with (first
    | (go_at_call 6; (with_reducible refine (HF.out _).mono ?_); rintro e1 w1 ⟨rfl, hb⟩; (replace H0N := Lib.hid (H0N.out.below (Nat.lt_of_le_of_lt (by omega) HL.out) hb)); (replace HB := Lib.hid (HB.out.trans (hb.mono HB.out.size))); (replace HL := Lib.hid (Nat.lt_of_lt_of_le HL.out hb.size)); clear hb)
    | (go_at_call 7; (with_reducible refine (known25 _ (HT.out.grown HB.out)).mono ?_); rintro e1 w1 ⟨rfl, hb⟩; (replace H0N := Lib.hid (H0N.out.below (Nat.lt_of_le_of_lt (by omega) HL.out) hb)); (replace HB := Lib.hid (HB.out.trans (hb.mono HB.out.size))); (replace HL := Lib.hid (Nat.lt_of_lt_of_le HL.out hb.size)); clear hb)
    | (refine nd_load rfl _ rfl (w.heap.size) x rfl H0N.out ?_))
  go_ret
  exact ⟨rfl, HB.out⟩
set_option maxRecDepth 100000 in
set_option maxHeartbeats 8000000 in
theorem walk_un (x : Nd) (hx : x.Small) (hf : x.nW ≤ 2000 ∧ x.nB ≤ 200) (hk : knownB x.kd = false) (w : World) (hT : NamesIn w) :
    Calls Tryd.prog 5 #[.agg x.val] w fun e w' => e = .returned (.bool true) ∧ Below w.heap.size w w' := by
  have HT := Lib.hid hT
  have HF : Hid (∀ w, Calls Tryd.prog 6 #[.agg #[.int .i64 0, .int .i64 0, .int .i64 0, .slice none 0 0], .agg x.val] w fun e w' => e = .returned (.bool true) ∧ Below w.heap.size w w') := Lib.hid (fun w => few_yes 0 0 0 none 0 0 (.int .i64 x.kd) (.int .i64 x.na) (.int .i64 x.nb) (.int .i8 x.Y) (.int .i32 x.m1) (.int .i64 x.s1) (.int .i8 x.z1) (.int .i32 x.m2) (.int .i64 x.s2) (.int .i8 x.z2) (.int .i8 x.lo) (.int .i8 x.hi) x.K x.S x.P x.O x.Z x.WA x.BA x.nW x.cW x.nB x.cB (by omega) hf.1 hf.2 w)
  have H0N := Lib.hid (NdAt.new x 28 w)
  have HB := Lib.hid ((Below.refl w.heap.size w).alloc (Nat.le_refl _) (.cells x.val 28))
  have HL : Hid (w.heap.size < (w.alloc (.cells x.val 28)).heap.size) := Lib.hid (by simp)
  clear hf hT
  have HPL := Lib.hid (fun (w : World) (h : NamesIn w) => plain_no x hk w h)
  have hnm := kname_ne x.kd
  rw [hk] at hnm
  have HNM := Lib.hid (fun w => refName_to x.kd w)
  generalize kname x.kd = nm at HNM hnm
  simp only [Bool.not_false] at hnm
  have HSM := Lib.hid (fun (w : World) => refNSame_yes Nd.zero Nd.zero (Nd.like_refl _) w (zs := []) (us := []) (B1 := 0) (B2 := 0) (B3 := 0) (B4 := 0) rfl rfl (Nat.zero_le _) Kit.Rd.nil Kit.Rd.nil (Nat.zero_le _) (Nat.zero_le _) rfl rfl (Nat.zero_le _) Kit.Rd.nil Kit.Rd.nil (Nat.zero_le _) (Nat.zero_le _))
  clear hk hx
  go_enter Tryd.func5, Tryd.ntmps5
  go_upto_region 1 with fail
  generalize w.alloc (.cells x.val 28) = W0 at *
  go_upto_region 4 with (first
    | (go_at_call 6; (with_reducible refine (HF.out _).mono ?_); rintro e1 w1 ⟨rfl, hb⟩; (replace H0N := Lib.hid (H0N.out.below (Nat.lt_of_le_of_lt (by omega) HL.out) hb)); (replace HB := Lib.hid (HB.out.trans (hb.mono HB.out.size))); (replace HL := Lib.hid (Nat.lt_of_lt_of_le HL.out hb.size)); clear hb)
    | (refine nd_load rfl _ rfl (w.heap.size) x rfl H0N.out ?_)
    | (go_at_call 15; (with_reducible refine (HPL.out _ (HT.out.grown HB.out)).mono ?_); rintro e1 w1 ⟨rfl, hb⟩; (replace H0N := Lib.hid (H0N.out.below (Nat.lt_of_le_of_lt (by omega) HL.out) hb)); (replace HB := Lib.hid (HB.out.trans (hb.mono HB.out.size))); (replace HL := Lib.hid (Nat.lt_of_lt_of_le HL.out hb.size)); clear hb)
    | (refine nd_store rfl (.tmp 3) (.tmp 11) rfl _ Nd.zero Nd.zero rfl rfl (NdBox.new Nd.zero _ _) ?_; rintro W2 hp hb1 hs1))
  have hb2 := ((Below.refl _ w1).alloc (Nat.le_refl _) (.cells Nd.zero.val 28)).trans hb1
  have hbz : w1.heap.size < W2.heap.size := by rw [hs1]; simp
  replace H0N := Lib.hid (H0N.out.below HL.out hb2)
  have H1N := Lib.hid hp.1
  have HSB : Hid (w.heap.size < w1.heap.size) := Lib.hid HL.out
  replace HB := Lib.hid (HB.out.trans (hb2.mono HB.out.size))
  replace HL := Lib.hid hbz
  clear hp hb1 hs1 hb2 hbz
  have q0 := H0N.out.at 0 (.int .i64 x.kd) rfl
  generalize w1.heap.size = b at *
  clear w1
  go_wp2_with (first
    | (go_at_call 11; (with_reducible refine (HNM.out _).mono ?_); rintro e1 w2 ⟨rfl, hb⟩; (replace H1N := Lib.hid (H1N.out.below HL.out hb)); (replace HB := Lib.hid (HB.out.trans (hb.mono HB.out.size))); clear hb)
    | (refine nd_load rfl _ rfl b Nd.zero rfl H1N.out ?_)
    | (go_at_call 16; (refine (HSM.out _).mono ?_); rintro e1 w3 ⟨rfl, hb⟩; (replace HB := Lib.hid (HB.out.trans (hb.mono HB.out.size))); clear hb)
    | (go_at_call 7; (with_reducible refine (known25 _ (HT.out.grown HB.out)).mono ?_); rintro e1 w4 ⟨rfl, hb⟩; (replace HB := Lib.hid (HB.out.trans (hb.mono HB.out.size))); clear hb))
  go_ret
  exact ⟨rfl, HB.out⟩
set_option maxRecDepth 100000 in
set_option maxHeartbeats 8000000 in
theorem walk_kn (x : Nd) (hx : x.Small) (w : World) (hf : x.nW ≤ 2000 ∧ x.nB ≤ 200) (hk : knownB x.kd = true) (ws bs : List Int) (hws : ws.length = x.nW) (hbs : bs.length = x.nB) (hrw : Kit.Rd w w.heap.size x.WA (ws.map (.int .i8))) (hrb : Kit.Rd w w.heap.size x.BA (bs.map (.int .i32))) (hT : NamesIn w) :
    Calls Tryd.prog 5 #[.agg x.val] w fun e w' => e = .returned (.bool true) ∧ Below w.heap.size w w' := by
  have HT := Lib.hid hT
  have HF : Hid (∀ w, Calls Tryd.prog 6 #[.agg #[.int .i64 0, .int .i64 0, .int .i64 0, .slice none 0 0], .agg x.val] w fun e w' => e = .returned (.bool true) ∧ Below w.heap.size w w') := Lib.hid (fun w => few_yes 0 0 0 none 0 0 (.int .i64 x.kd) (.int .i64 x.na) (.int .i64 x.nb) (.int .i8 x.Y) (.int .i32 x.m1) (.int .i64 x.s1) (.int .i8 x.z1) (.int .i32 x.m2) (.int .i64 x.s2) (.int .i8 x.z2) (.int .i8 x.lo) (.int .i8 x.hi) x.K x.S x.P x.O x.Z x.WA x.BA x.nW x.cW x.nB x.cB (by omega) hf.1 hf.2 w)
  have H0N := Lib.hid (NdAt.new x 28 w)
  have HB := Lib.hid ((Below.refl w.heap.size w).alloc (Nat.le_refl _) (.cells x.val 28))
  have HL : Hid (w.heap.size < (w.alloc (.cells x.val 28)).heap.size) := Lib.hid (by simp)
  have hnm := kname_ne x.kd
  rw [hk] at hnm
  have HNM := Lib.hid (fun w => refName_to x.kd w)
  generalize kname x.kd = nm at HNM hnm
  simp only [Bool.not_true] at hnm
  have HPL : Hid (∀ w1 : World, Below w.heap.size w w1 → Calls Tryd.prog 15 #[.agg x.val] w1 fun e w' => ∃ A c A2 c2, e = .returned (.agg (x.plainV A c A2 c2).val) ∧ Below w1.heap.size w1 w' ∧ Kit.Rd w' w'.heap.size A ((keepL x.kd ws).map (.int .i8)) ∧ Kit.Rd w' w'.heap.size A2 ((keepL x.kd bs).map (.int .i32))) :=
    Lib.hid (fun w1 hb => plain_yes x hk _ _ (own_lenW x ws hws) (Nat.le_trans (own_leW x) (by omega)) (own_lenB x bs hbs) (Nat.le_trans (own_leB x) (by omega)) w1 (own_rdW x ws (hrw.below hb)) hb.size (own_rdB x bs (hrb.below hb)) hb.size (hT.grown hb))
  have HXW := Lib.hid (hrw.below HB.out)
  have HXB := Lib.hid (hrb.below HB.out)
  have HWS := Lib.hid hws
  have HBS := Lib.hid hbs
  have HK := Lib.hid hk
  have HX := Lib.hid hx
  have HFF := Lib.hid hf
  clear hf hT hk hx hws hbs hrw hrb
  go_enter Tryd.func5, Tryd.ntmps5
  go_upto_region 1 with fail
  generalize w.alloc (.cells x.val 28) = W0 at *
  go_upto_region 4 with (first
    | (go_at_call 6; (with_reducible refine (HF.out _).mono ?_); rintro e1 w1 ⟨rfl, hb⟩; (replace H0N := Lib.hid (H0N.out.below HL.out hb)); (replace HXW := Lib.hid (HXW.out.below (hb.mono HB.out.size))); (replace HXB := Lib.hid (HXB.out.below (hb.mono HB.out.size))); (replace HB := Lib.hid (HB.out.trans (hb.mono HB.out.size))); (replace HL := Lib.hid (Nat.lt_of_lt_of_le HL.out hb.size)); clear hb)
    | (refine nd_load rfl _ rfl (w.heap.size) x rfl H0N.out ?_)
    | (go_at_call 15; (with_reducible refine (HPL.out _ HB.out).mono ?_); rintro e1 w1 ⟨A, c, A2, c2, rfl, hb, hr1, hr2⟩; have HMW := Lib.hid hr1; have HMB := Lib.hid hr2; (replace H0N := Lib.hid (H0N.out.below HL.out hb)); (replace HXW := Lib.hid (HXW.out.below (hb.mono HB.out.size))); (replace HXB := Lib.hid (HXB.out.below (hb.mono HB.out.size))); (replace HB := Lib.hid (HB.out.trans (hb.mono HB.out.size))); (replace HL := Lib.hid (Nat.lt_of_lt_of_le HL.out hb.size)); clear hb hr1 hr2)
    | (refine nd_store rfl (.tmp 3) (.tmp 11) rfl _ Nd.zero (x.plainV A c A2 c2) rfl rfl (NdBox.new Nd.zero _ _) ?_; rintro W2 hp hb1 hs1))
  have hb2 := ((Below.refl _ w1).alloc (Nat.le_refl _) (.cells Nd.zero.val 28)).trans hb1
  have hbz : w1.heap.size < W2.heap.size := by rw [hs1]; simp
  replace H0N := Lib.hid (H0N.out.below HL.out hb2)
  have H1N := Lib.hid hp.1
  have HSB : Hid (w.heap.size < w1.heap.size) := Lib.hid HL.out
  replace HMW := Lib.hid (HMW.out.below hb2)
  replace HMB := Lib.hid (HMB.out.below hb2)
  replace HXW := Lib.hid (HXW.out.below (hb2.mono HB.out.size))
  replace HXB := Lib.hid (HXB.out.below (hb2.mono HB.out.size))
  replace HB := Lib.hid (HB.out.trans (hb2.mono HB.out.size))
  replace HL := Lib.hid hbz
  clear hp hb1 hs1 hb2 hbz
  clear HPL
  generalize w1.heap.size = b at *
  clear w1
  have m0 : (x.plainV A c A2 c2).val.toList[0]? = some (.int .i64 x.kd) := rfl
  have m1 : (x.plainV A c A2 c2).val.toList[1]? = some (.int .i64 x.na) := rfl
  have HM0 := Lib.hid m0
  have HM1 := Lib.hid m1
  have HMO := Lib.hid (plain_more x HK.out A c A2 c2)
  have HAG := Lib.hid (plain_again x HK.out A c A2 c2)
  have HLI := Lib.hid (fun h => plain_like x HK.out h A c A2 c2)
  have HUN := Lib.hid (fun h => plain_unlike x HK.out h A c A2 c2)
  have HSMm := Lib.hid (plain_small x HX.out A c A2 c2)
  have HKM : Hid (knownB (x.plainV A c A2 c2).kd = true) := Lib.hid HK.out
  have HZW : Hid ((keepL x.kd ws).length = (x.plainV A c A2 c2).nW) := Lib.hid (own_lenW x ws HWS.out)
  have HZB : Hid ((keepL x.kd bs).length = (x.plainV A c A2 c2).nB) := Lib.hid (own_lenB x bs HBS.out)
  have HLW : Hid ((x.plainV A c A2 c2).nW ≤ 1000000) := Lib.hid (Nat.le_trans (own_leW x) (by have := HFF.out; omega))
  have HLB : Hid ((x.plainV A c A2 c2).nB ≤ 1000000) := Lib.hid (Nat.le_trans (own_leB x) (by have := HFF.out; omega))
  have HKW := Lib.hid (keep_eq (k := x.kd) (l := ws))
  have HKB := Lib.hid (keep_eq (k := x.kd) (l := bs))
  have HKK : Hid (keepL (x.plainV A c A2 c2).kd (keepL x.kd ws) = keepL x.kd ws ∧ keepL (x.plainV A c A2 c2).kd (keepL x.kd bs) = keepL x.kd bs) := Lib.hid ⟨keep_keep x.kd ws, keep_keep x.kd bs⟩
  replace HMW : Hid (Kit.Rd W2 b (x.plainV A c A2 c2).WA ((keepL x.kd ws).map (.int .i8))) := Lib.hid HMW.out
  replace HMB : Hid (Kit.Rd W2 b (x.plainV A c A2 c2).BA ((keepL x.kd bs).map (.int .i32))) := Lib.hid HMB.out
  clear m0 m1
  generalize (x.plainV A c A2 c2) = m at *
  generalize keepL x.kd ws = zs at *
  generalize keepL x.kd bs = us at *
  have q0 := H0N.out.at 0 (.int .i64 x.kd) rfl
  go_upto_region 6 with (go_at_call 11; (with_reducible refine (HNM.out _).mono ?_); rintro e1 w1 ⟨rfl, hb⟩; (replace H1N := Lib.hid (H1N.out.below HL.out hb)); (replace HMW := Lib.hid (HMW.out.below (hb.mono (Nat.le_of_lt HL.out)))); (replace HMB := Lib.hid (HMB.out.below (hb.mono (Nat.le_of_lt HL.out)))); (replace HXW := Lib.hid (HXW.out.below (hb.mono HB.out.size))); (replace HXB := Lib.hid (HXB.out.below (hb.mono HB.out.size))); (replace H0N := Lib.hid (H0N.out.below (Nat.lt_trans HSB.out HL.out) hb)); (replace HB := Lib.hid (HB.out.trans (hb.mono HB.out.size))); (replace HL := Lib.hid (Nat.lt_of_lt_of_le HL.out hb.size)); clear hb)
  clear hnm HNM q0
  replace HMW : Hid (Kit.Rd w1.drew b m.WA (zs.map (.int .i8))) := Lib.hid HMW.out.drew
  replace HMB : Hid (Kit.Rd w1.drew b m.BA (us.map (.int .i32))) := Lib.hid HMB.out.drew
  replace HXW : Hid (Kit.Rd w1.drew w.heap.size x.WA (ws.map (.int .i8))) := Lib.hid HXW.out.drew
  replace HXB : Hid (Kit.Rd w1.drew w.heap.size x.BA (bs.map (.int .i32))) := Lib.hid HXB.out.drew
  have hsb := HSB.out
  refine wp_region_held_drew (S := fun w' => NdAt (w.heap.size) x w' ∧ NdAt (b) m w') (by kernel_rfl) (⟨H0N.out.below (Nat.lt_of_le_of_lt (by omega) HL.out) (Below.refl _ _).drew, H1N.out.below (Nat.lt_of_le_of_lt (by omega) HL.out) (Below.refl _ _).drew⟩) (fun hHeld => ?_)
  replace HB := Lib.hid (HB.out.trans (Below.refl _ w1).drew)
  replace HL : Hid (b < w1.drew.heap.size) := Lib.hid HL.out
  clear H0N H1N
  generalize w1.drew = W3 at *
  clear w1
  refine Tk.x 0 rfl ?_
  try simp only [Tk.put]
  refine Tk.y 1 (v := .int .i64 x.kd) rfl ?_ ?_
  · intro wS hSw
    have q := hSw.2.at 0 (.int .i64 x.kd) HM0.out
    first | (go_simp; done) | (go_simp; with_reducible rfl)
  try simp only [Tk.put]
  refine Tk.x 2 rfl ?_
  try simp only [Tk.put]
  refine Tk.y 3 (v := .int .i64 x.kd) rfl ?_ ?_
  · intro wS hSw
    have q := (hSw.1).at 0 (.int .i64 x.kd) rfl
    first | (go_simp; done) | (go_simp; with_reducible rfl)
  try simp only [Tk.put]
  refine Tk.y 4 (v := .bool false) rfl ?_ ?_
  · intro wS hSw
    first | (go_simp; done) | (go_simp; with_reducible rfl)
  try simp only [Tk.put]
  refine Tk.x 5 rfl ?_
  try simp only [Tk.put]
  refine Tk.x 6 rfl ?_
  try simp only [Tk.put]
  refine Tk.y 7 (v := .int .i64 x.na) rfl ?_ ?_
  · intro wS hSw
    have q := hSw.2.at 1 (.int .i64 x.na) HM1.out
    first | (go_simp; done) | (go_simp; with_reducible rfl)
  try simp only [Tk.put]
  refine Tk.x 8 rfl ?_
  try simp only [Tk.put]
  refine Tk.y 9 (v := .int .i64 x.na) rfl ?_ ?_
  · intro wS hSw
    have q := (hSw.1).at 1 (.int .i64 x.na) rfl
    first | (go_simp; done) | (go_simp; with_reducible rfl)
  try simp only [Tk.put]
  refine Tk.y 10 (v := .bool false) rfl ?_ ?_
  · intro wS hSw
    first | (go_simp; done) | (go_simp; with_reducible rfl)
  try simp only [Tk.put]
  refine Tk.x 11 rfl ?_
  try simp only [Tk.put]
  refine Tk.x 12 rfl ?_
  try simp only [Tk.put]
  refine Tk.t 13 (v := .agg (m).val) rfl (nd_load_at _ rfl (by rfl) _ (m) rfl (fun _ h => h.2)) (by assumption) ?_
  try simp only [Tk.put]
  have hmo := refMore_to m
  unfold MoreIs at hmo
  rw [HMO.out] at hmo
  have HMOR := Lib.hid hmo
  clear hmo
  refine Tk.s 14 rfl (fun Kq hK => ?_)
  go_simp
  go_at_call 17
  with_reducible refine (HMOR.out _).mono ?_
  rintro e w1 ⟨rfl, hb⟩
  replace HMW := Lib.hid (HMW.out.below (hb.mono (Nat.le_of_lt HL.out)))
  replace HMB := Lib.hid (HMB.out.below (hb.mono (Nat.le_of_lt HL.out)))
  replace HXW := Lib.hid (HXW.out.below (hb.mono HB.out.size))
  replace HXB := Lib.hid (HXB.out.below (hb.mono HB.out.size))
  replace HB := Lib.hid (HB.out.trans (hb.mono HB.out.size))
  have hS2 : NdAt (w.heap.size) x w1 ∧ NdAt (b) m w1 := ⟨(hHeld.1).below (Nat.lt_of_le_of_lt (by omega) HL.out) hb, (hHeld.2).below (Nat.lt_of_le_of_lt (by omega) HL.out) hb⟩
  replace HL : Hid (b < w1.heap.size) := Lib.hid (Nat.lt_of_lt_of_le HL.out hb.size)
  clear hb hHeld
  refine hK.out _ _ hS2 (fun hHeld => ?_)
  clear hK Kq hS2
  try simp only [Tk.put]
  refine Tk.x 15 rfl ?_
  try simp only [Tk.put]
  refine Tk.x 16 rfl ?_
  try simp only [Tk.put]
  refine Tk.t 17 (v := .agg (m).val) rfl (nd_load_at _ rfl (by rfl) _ (m) rfl (fun _ h => h.2)) (by assumption) ?_
  try simp only [Tk.put]
  refine Tk.t 19 (v := .agg (m).val) rfl (nd_load_at _ rfl (by rfl) _ (m) rfl (fun _ h => h.2)) (by assumption) ?_
  try simp only [Tk.put]
  refine Tk.s 18 rfl (fun Kq hK => ?_)
  go_simp
  go_at_call 15
  with_reducible refine (plain_yes m HKM.out zs us (by have h := own_lenW m zs HZW.out; rw [HKK.out.1] at h; exact h) (Nat.le_trans (own_leW m) HLW.out) (by have h := own_lenB m us HZB.out; rw [HKK.out.2] at h; exact h) (Nat.le_trans (own_leB m) HLB.out) _ (by have h := own_rdW m zs HMW.out; rw [HKK.out.1] at h; exact h) (Nat.le_of_lt HL.out) (by have h := own_rdB m us HMB.out; rw [HKK.out.2] at h; exact h) (Nat.le_of_lt HL.out) (HT.out.grown HB.out)).mono ?_
  rintro e w1 ⟨A3, c3, A4, c4, rfl, hb, hr3, hr4⟩
  have HR3 := Lib.hid hr3
  have HR4 := Lib.hid hr4
  clear hr3 hr4
  replace HMW := Lib.hid (HMW.out.below (hb.mono (Nat.le_of_lt HL.out)))
  replace HMB := Lib.hid (HMB.out.below (hb.mono (Nat.le_of_lt HL.out)))
  replace HXW := Lib.hid (HXW.out.below (hb.mono HB.out.size))
  replace HXB := Lib.hid (HXB.out.below (hb.mono HB.out.size))
  replace HB := Lib.hid (HB.out.trans (hb.mono HB.out.size))
  have hS2 : NdAt (w.heap.size) x w1 ∧ NdAt (b) m w1 := ⟨(hHeld.1).below (Nat.lt_of_le_of_lt (by omega) HL.out) hb, (hHeld.2).below (Nat.lt_of_le_of_lt (by omega) HL.out) hb⟩
  replace HL : Hid (b < w1.heap.size) := Lib.hid (Nat.lt_of_lt_of_le HL.out hb.size)
  clear hb hHeld
  refine hK.out _ _ hS2 (fun hHeld => ?_)
  clear hK Kq hS2
  try simp only [Tk.put]
  refine Tk.s 20 rfl (fun Kq hK => ?_)
  go_simp
  go_at_call 16
  with_reducible refine (refNSame_yes (m.plainV A3 c3 A4 c4) m (HAG.out A3 c3 A4 c4).1 _ (zs := zs) (us := us) (HAG.out A3 c3 A4 c4).2.1 ((HAG.out A3 c3 A4 c4).2.1.trans HZW.out.symm) (by rw [(HAG.out A3 c3 A4 c4).2.1]; exact HLW.out) HR3.out HMW.out (Nat.le_refl _) (Nat.le_of_lt HL.out) (HAG.out A3 c3 A4 c4).2.2 ((HAG.out A3 c3 A4 c4).2.2.trans HZB.out.symm) (by rw [(HAG.out A3 c3 A4 c4).2.2]; exact HLB.out) HR4.out HMB.out (Nat.le_refl _) (Nat.le_of_lt HL.out)).mono ?_
  rintro e w1 ⟨rfl, hb⟩
  clear HR3 HR4
  replace HMW := Lib.hid (HMW.out.below (hb.mono (Nat.le_of_lt HL.out)))
  replace HMB := Lib.hid (HMB.out.below (hb.mono (Nat.le_of_lt HL.out)))
  replace HXW := Lib.hid (HXW.out.below (hb.mono HB.out.size))
  replace HXB := Lib.hid (HXB.out.below (hb.mono HB.out.size))
  replace HB := Lib.hid (HB.out.trans (hb.mono HB.out.size))
  have hS2 : NdAt (w.heap.size) x w1 ∧ NdAt (b) m w1 := ⟨(hHeld.1).below (Nat.lt_of_le_of_lt (by omega) HL.out) hb, (hHeld.2).below (Nat.lt_of_le_of_lt (by omega) HL.out) hb⟩
  replace HL : Hid (b < w1.heap.size) := Lib.hid (Nat.lt_of_lt_of_le HL.out hb.size)
  clear hb hHeld
  refine hK.out _ _ hS2 (fun hHeld => ?_)
  clear hK Kq hS2
  try simp only [Tk.put]
  refine Tk.x 21 rfl ?_
  try simp only [Tk.put]
  refine Tk.x 22 rfl ?_
  try simp only [Tk.put]
  refine wpAnyH_done (by kernel_rfl) ?_ _
  have H0N := Lib.hid (hHeld.1)
  have H1N := Lib.hid (hHeld.2)
  clear hHeld
  have hmx := refMore_to x
  unfold MoreIs at hmx
  cases hmb : x.moreB
  · rw [hmb] at hmx
    have HMX := Lib.hid hmx
    have HSAM := Lib.hid hmb
    clear hmx hmb
    go_wp2_with (first
      | (refine nd_load rfl _ rfl (w.heap.size) x rfl H0N.out ?_)
      | (refine nd_load rfl _ rfl b m rfl H1N.out ?_)
      | (go_at_call 17; (with_reducible refine (HMX.out _).mono ?_); rintro e1 w1 ⟨rfl, hb⟩; (replace H1N := Lib.hid (H1N.out.below HL.out hb)); (replace HMW := Lib.hid (HMW.out.below (hb.mono (Nat.le_of_lt HL.out)))); (replace HMB := Lib.hid (HMB.out.below (hb.mono (Nat.le_of_lt HL.out)))); (replace HXW := Lib.hid (HXW.out.below (hb.mono HB.out.size))); (replace HXB := Lib.hid (HXB.out.below (hb.mono HB.out.size))); (replace H0N := Lib.hid (H0N.out.below (Nat.lt_trans hsb HL.out) hb)); (replace HB := Lib.hid (HB.out.trans (hb.mono HB.out.size))); (replace HL := Lib.hid (Nat.lt_of_lt_of_le HL.out hb.size)); clear hb)
      | (go_at_call 16; (with_reducible refine (refNSame_yes m x (HLI.out HSAM.out).1 _ (zs := zs) (us := us) (HLI.out HSAM.out).2.1 HZW.out.symm HLW.out HMW.out (by have h := HXW.out; rw [← HKW.out (by rw [HZW.out, HWS.out, (HLI.out HSAM.out).2.1])] at h; exact h) (Nat.le_of_lt HL.out) (Nat.le_of_lt (Nat.lt_trans hsb HL.out)) (HLI.out HSAM.out).2.2 HZB.out.symm HLB.out HMB.out (by have h := HXB.out; rw [← HKB.out (by rw [HZB.out, HBS.out, (HLI.out HSAM.out).2.2])] at h; exact h) (Nat.le_of_lt HL.out) (Nat.le_of_lt (Nat.lt_trans hsb HL.out))).mono ?_); rintro e1 w1 ⟨rfl, hb⟩; (replace H1N := Lib.hid (H1N.out.below HL.out hb)); (replace HMW := Lib.hid (HMW.out.below (hb.mono (Nat.le_of_lt HL.out)))); (replace HMB := Lib.hid (HMB.out.below (hb.mono (Nat.le_of_lt HL.out)))); (replace HXW := Lib.hid (HXW.out.below (hb.mono HB.out.size))); (replace HXB := Lib.hid (HXB.out.below (hb.mono HB.out.size))); (replace H0N := Lib.hid (H0N.out.below (Nat.lt_trans hsb HL.out) hb)); (replace HB := Lib.hid (HB.out.trans (hb.mono HB.out.size))); (replace HL := Lib.hid (Nat.lt_of_lt_of_le HL.out hb.size)); clear hb)
      | (go_at_call 7; (with_reducible refine (known25 _ (HT.out.grown HB.out)).mono ?_); rintro e1 w1 ⟨rfl, hb⟩; (replace H1N := Lib.hid (H1N.out.below HL.out hb)); (replace HMW := Lib.hid (HMW.out.below (hb.mono (Nat.le_of_lt HL.out)))); (replace HMB := Lib.hid (HMB.out.below (hb.mono (Nat.le_of_lt HL.out)))); (replace HXW := Lib.hid (HXW.out.below (hb.mono HB.out.size))); (replace HXB := Lib.hid (HXB.out.below (hb.mono HB.out.size))); (replace H0N := Lib.hid (H0N.out.below (Nat.lt_trans hsb HL.out) hb)); (replace HB := Lib.hid (HB.out.trans (hb.mono HB.out.size))); (replace HL := Lib.hid (Nat.lt_of_lt_of_le HL.out hb.size)); clear hb))
    go_ret
    exact ⟨rfl, HB.out⟩
  · rw [hmb] at hmx
    have HMX := Lib.hid hmx
    have HSAM := Lib.hid (HUN.out hmb)
    have hcd := plain_code m HMO.out
    have HCK := Lib.hid (fun (w : World) (h : NamesIn w) => check_to m HSMm.out w h)
    clear hmx hmb
    generalize m.checkZ = code at *
    rcases (show code ≠ 2 ∨ (code = 2 ∧ m.hi < m.lo) by omega) with hc | ⟨hc, hc2⟩
    · have d1 : (code != 2) = true := by simpa using hc
      have d2 : (code == 2) = false := by simpa using hc
      clear hcd
      go_wp2_with (first
        | (refine nd_load rfl _ rfl (w.heap.size) x rfl H0N.out ?_)
        | (refine nd_load rfl _ rfl b m rfl H1N.out ?_)
        | (go_at_call 17; (with_reducible refine (HMX.out _).mono ?_); rintro e1 w1 ⟨rfl, hb⟩; (replace H1N := Lib.hid (H1N.out.below HL.out hb)); (replace HMW := Lib.hid (HMW.out.below (hb.mono (Nat.le_of_lt HL.out)))); (replace HMB := Lib.hid (HMB.out.below (hb.mono (Nat.le_of_lt HL.out)))); (replace HXW := Lib.hid (HXW.out.below (hb.mono HB.out.size))); (replace HXB := Lib.hid (HXB.out.below (hb.mono HB.out.size))); (replace H0N := Lib.hid (H0N.out.below (Nat.lt_trans hsb HL.out) hb)); (replace HB := Lib.hid (HB.out.trans (hb.mono HB.out.size))); (replace HL := Lib.hid (Nat.lt_of_lt_of_le HL.out hb.size)); clear hb)
        | (go_at_call 8; (with_reducible refine (HCK.out _ (HT.out.grown HB.out)).mono ?_); rintro e1 w1 ⟨rfl, hb⟩; (replace H1N := Lib.hid (H1N.out.below HL.out hb)); (replace HMW := Lib.hid (HMW.out.below (hb.mono (Nat.le_of_lt HL.out)))); (replace HMB := Lib.hid (HMB.out.below (hb.mono (Nat.le_of_lt HL.out)))); (replace HXW := Lib.hid (HXW.out.below (hb.mono HB.out.size))); (replace HXB := Lib.hid (HXB.out.below (hb.mono HB.out.size))); (replace H0N := Lib.hid (H0N.out.below (Nat.lt_trans hsb HL.out) hb)); (replace HB := Lib.hid (HB.out.trans (hb.mono HB.out.size))); (replace HL := Lib.hid (Nat.lt_of_lt_of_le HL.out hb.size)); clear hb)
        | (go_at_call 16; (with_reducible refine (same_no m x _ HSAM.out HZW.out.symm HLW.out HMW.out HKW.out HWS.out HXW.out (Nat.le_of_lt HL.out) (Nat.le_of_lt (Nat.lt_trans hsb HL.out))).mono ?_); rintro e1 w1 ⟨rfl, hb⟩; (replace H1N := Lib.hid (H1N.out.below HL.out hb)); (replace HMW := Lib.hid (HMW.out.below (hb.mono (Nat.le_of_lt HL.out)))); (replace HMB := Lib.hid (HMB.out.below (hb.mono (Nat.le_of_lt HL.out)))); (replace HXW := Lib.hid (HXW.out.below (hb.mono HB.out.size))); (replace HXB := Lib.hid (HXB.out.below (hb.mono HB.out.size))); (replace H0N := Lib.hid (H0N.out.below (Nat.lt_trans hsb HL.out) hb)); (replace HB := Lib.hid (HB.out.trans (hb.mono HB.out.size))); (replace HL := Lib.hid (Nat.lt_of_lt_of_le HL.out hb.size)); clear hb)
        | (go_at_call 7; (with_reducible refine (known25 _ (HT.out.grown HB.out)).mono ?_); rintro e1 w1 ⟨rfl, hb⟩; (replace H1N := Lib.hid (H1N.out.below HL.out hb)); (replace HMW := Lib.hid (HMW.out.below (hb.mono (Nat.le_of_lt HL.out)))); (replace HMB := Lib.hid (HMB.out.below (hb.mono (Nat.le_of_lt HL.out)))); (replace HXW := Lib.hid (HXW.out.below (hb.mono HB.out.size))); (replace HXB := Lib.hid (HXB.out.below (hb.mono HB.out.size))); (replace H0N := Lib.hid (H0N.out.below (Nat.lt_trans hsb HL.out) hb)); (replace HB := Lib.hid (HB.out.trans (hb.mono HB.out.size))); (replace HL := Lib.hid (Nat.lt_of_lt_of_le HL.out hb.size)); clear hb))
      go_ret
      exact ⟨rfl, HB.out⟩
    · subst hc
      clear hcd
      go_upto_region 11 with (first
        | (refine nd_load rfl _ rfl (w.heap.size) x rfl H0N.out ?_)
        | (refine nd_load rfl _ rfl b m rfl H1N.out ?_)
        | (go_at_call 17; (with_reducible refine (HMX.out _).mono ?_); rintro e1 w1 ⟨rfl, hb⟩; (replace H1N := Lib.hid (H1N.out.below HL.out hb)); (replace HMW := Lib.hid (HMW.out.below (hb.mono (Nat.le_of_lt HL.out)))); (replace HMB := Lib.hid (HMB.out.below (hb.mono (Nat.le_of_lt HL.out)))); (replace HXW := Lib.hid (HXW.out.below (hb.mono HB.out.size))); (replace HXB := Lib.hid (HXB.out.below (hb.mono HB.out.size))); (replace H0N := Lib.hid (H0N.out.below (Nat.lt_trans hsb HL.out) hb)); (replace HB := Lib.hid (HB.out.trans (hb.mono HB.out.size))); (replace HL := Lib.hid (Nat.lt_of_lt_of_le HL.out hb.size)); clear hb)
        | (go_at_call 8; (with_reducible refine (HCK.out _ (HT.out.grown HB.out)).mono ?_); rintro e1 w1 ⟨rfl, hb⟩; (replace H1N := Lib.hid (H1N.out.below HL.out hb)); (replace HMW := Lib.hid (HMW.out.below (hb.mono (Nat.le_of_lt HL.out)))); (replace HMB := Lib.hid (HMB.out.below (hb.mono (Nat.le_of_lt HL.out)))); (replace HXW := Lib.hid (HXW.out.below (hb.mono HB.out.size))); (replace HXB := Lib.hid (HXB.out.below (hb.mono HB.out.size))); (replace H0N := Lib.hid (H0N.out.below (Nat.lt_trans hsb HL.out) hb)); (replace HB := Lib.hid (HB.out.trans (hb.mono HB.out.size))); (replace HL := Lib.hid (Nat.lt_of_lt_of_le HL.out hb.size)); clear hb))
      go_wp2_with (first
        | (refine nd_load rfl _ rfl (w.heap.size) x rfl H0N.out ?_)
        | (refine nd_load rfl _ rfl b m rfl H1N.out ?_)
        | (go_at_call 16; (with_reducible refine (same_no m x _ HSAM.out HZW.out.symm HLW.out HMW.out HKW.out HWS.out HXW.out (Nat.le_of_lt HL.out) (Nat.le_of_lt (Nat.lt_trans hsb HL.out))).mono ?_); rintro e1 w1 ⟨rfl, hb⟩; (replace H1N := Lib.hid (H1N.out.below HL.out hb)); (replace HMW := Lib.hid (HMW.out.below (hb.mono (Nat.le_of_lt HL.out)))); (replace HMB := Lib.hid (HMB.out.below (hb.mono (Nat.le_of_lt HL.out)))); (replace HXW := Lib.hid (HXW.out.below (hb.mono HB.out.size))); (replace HXB := Lib.hid (HXB.out.below (hb.mono HB.out.size))); (replace H0N := Lib.hid (H0N.out.below (Nat.lt_trans hsb HL.out) hb)); (replace HB := Lib.hid (HB.out.trans (hb.mono HB.out.size))); (replace HL := Lib.hid (Nat.lt_of_lt_of_le HL.out hb.size)); clear hb; (have q13 := H1N.out.at 17 (.int .i8 m.lo) rfl); (have q14 := H1N.out.at 18 (.int .i8 m.hi) rfl))
        | (go_at_call 7; (with_reducible refine (known25 _ (HT.out.grown HB.out)).mono ?_); rintro e1 w1 ⟨rfl, hb⟩; (replace H1N := Lib.hid (H1N.out.below HL.out hb)); (replace HMW := Lib.hid (HMW.out.below (hb.mono (Nat.le_of_lt HL.out)))); (replace HMB := Lib.hid (HMB.out.below (hb.mono (Nat.le_of_lt HL.out)))); (replace HXW := Lib.hid (HXW.out.below (hb.mono HB.out.size))); (replace HXB := Lib.hid (HXB.out.below (hb.mono HB.out.size))); (replace H0N := Lib.hid (H0N.out.below (Nat.lt_trans hsb HL.out) hb)); (replace HB := Lib.hid (HB.out.trans (hb.mono HB.out.size))); (replace HL := Lib.hid (Nat.lt_of_lt_of_le HL.out hb.size)); clear hb))
      go_ret
      exact ⟨rfl, HB.out⟩
end Go.Proofs.YtamcdpkakdiggaaDoor.lawKindsPlain
end
