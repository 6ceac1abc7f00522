/- Layer 13 (lower): how many products are added; the fixed call. -/
import Derived.Test.YtoobpjdbdikbiaaConvBoth
import Derived.Deep.RegionHeld3
namespace Go.Proofs.Ytoobpjdbdikbiaa.CLower
open Go Go.ChangeShapes Go.WideShapes Go.ChangeAt Go.RowKit
open Plain CSat CShape CTensor CConv
set_option linter.unusedVariables false

/-- how many products are added. -/
def workZ (H W C K S P O : Int) (nW nB : Nat) : Int :=
  if convE H W C K S P O nW nB = 0 then elemsZ (stepsM H K S P) (stepsM W K S P) O * K * K * C else 0
theorem work_bd {n K C : Int} (n1 : 0 ≤ n) (n2 : n ≤ 1024) (h1 : 1 ≤ C) (h2 : C ≤ 1024) (h3 : 1 ≤ K) (h4 : K ≤ 7) :
    0 ≤ n * K ∧ n * K ≤ 7168 ∧ 0 ≤ n * K * K ∧ n * K * K ≤ 50176 ∧ 0 ≤ n * K * K * C ∧ n * K * K * C ≤ 51380224 := by
  have a1 : 0 ≤ n * K := Int.mul_nonneg n1 (by omega)
  have a2 : n * K ≤ 1024 * 7 := Int.mul_le_mul n2 h4 (by omega) (by omega)
  have a3 : 0 ≤ n * K * K := Int.mul_nonneg a1 (by omega)
  have a4 : n * K * K ≤ 7168 * 7 := Int.mul_le_mul (by omega) h4 (by omega) (by omega)
  have a5 : 0 ≤ n * K * K * C := Int.mul_nonneg a3 (by omega)
  have a6 : n * K * K * C ≤ 50176 * 1024 := Int.mul_le_mul (by omega) h2 (by omega) (by omega)
  omega

set_option maxRecDepth 100000 in
set_option maxHeartbeats 4000000 in
theorem work_err (H W C : Int) (x0 x1 x2 x8 x11 x12 x13 x14 x15 x16 x17 x18 : Value) (K S P O Z : Int) (WA BA : Option Addr) (nW cW nB cB : Nat) (er : Int) (he : convE H W C K S P O nW nB = er) (h0 : er ≠ 0) (w : World) :
    Calls Try.prog 16 #[.agg #[.int .i64 H, .int .i64 W, .int .i64 C], .agg #[x0, x1, x2, .int .i64 K, .int .i64 S, .int .i64 P, .int .i64 O, .int .i8 Z, x8, .slice WA nW cW, .slice BA nB cB, x11, x12, x13, x14, x15, x16, x17, x18]] w fun e' w' => e' = .returned (.int .i64 0) ∧ Below w.heap.size w w' := by
  have HE := Lib.hid he
  obtain ⟨s1, s2, s3, hv⟩ := convS_three H W C K S P O nW nB
  have HV := Lib.hid hv
  clear he hv
  have TN0 : Hid (NodeAt (w.heap.size + 1) x0 x1 x2 x8 x11 x12 x13 x14 x15 x16 x17 x18 K S P O Z WA BA nW cW nB cB ((w.alloc (.cells #[.int .i64 H, .int .i64 W, .int .i64 C] 23)).alloc (.cells #[x0, x1, x2, .int .i64 K, .int .i64 S, .int .i64 P, .int .i64 O, .int .i8 Z, x8, .slice WA nW cW, .slice BA nB cB, x11, x12, x13, x14, x15, x16, x17, x18] 32))) := by
    have h := NodeAt.new x0 x1 x2 x8 x11 x12 x13 x14 x15 x16 x17 x18 K S P O Z WA BA nW cW nB cB 32 (w.alloc (.cells #[.int .i64 H, .int .i64 W, .int .i64 C] 23))
    rw [World.size_alloc] at h
    exact Lib.hid h
  go_enter Try.func16, Try.ntmps16
  go_wp2_with (first
      | (go_at_call 18
         have hal : Below w.heap.size w ((w.alloc (.cells #[.int .i64 H, .int .i64 W, .int .i64 C] 23)).alloc (.cells #[x0, x1, x2, .int .i64 K, .int .i64 S, .int .i64 P, .int .i64 O, .int .i8 Z, x8, .slice WA nW cW, .slice BA nB cB, x11, x12, x13, x14, x15, x16, x17, x18] 32)) := ((Below.refl _ _).alloc (by first | exact Nat.le_refl _ | (simp; done) | (simp; omega)) _).alloc (by first | exact Nat.le_refl _ | (simp; done) | (simp; omega)) _
         refine (conv_to H W C x0 x1 x2 x8 x11 x12 x13 x14 x15 x16 x17 x18 K S P O Z WA BA nW cW nB cB _ _ HE.out HV.out _).mono ?_
         rintro e w1 ⟨rfl, hb⟩
         have hh : Below w.heap.size w w1 := hal.trans (hb.mono hal.size)
         have qTB := (shapeNew H W C 23) w
         try simp only [World.size_alloc] at qTB
         have TB := Lib.hid ((qTB.below (B' := w.heap.size + 1) (by omega) (((Below.refl _ _).alloc (by first | exact Nat.le_refl _ | (simp; done) | (simp; omega)) _).mono (by simp))).below (by first | (simp; done) | (simp; omega)) hb)
         have yTB : w.heap.size < w1.heap.size := by have := hb.size; simp at this; omega
         clear qTB
         have qTN := (NodeAt.new x0 x1 x2 x8 x11 x12 x13 x14 x15 x16 x17 x18 K S P O Z WA BA nW cW nB cB 32) (w.alloc (.cells #[.int .i64 H, .int .i64 W, .int .i64 C] 23))
         try simp only [World.size_alloc] at qTN
         have TN := Lib.hid (qTN.below (by first | (simp; done) | (simp; omega)) hb)
         have yTN : w.heap.size + 1 < w1.heap.size := by have := hb.size; simp at this; omega
         clear qTN
         have HBW : Hid (Below w.heap.size w w1) := Lib.hid hh
         obtain ⟨tbp0, tbp1, tbp2⟩ := TB.out
         clear hb hh hal)
      | (refine wpList_load_mid rfl 32 (.tmp 3) rfl (w.heap.size + 1) 0 rfl [x0, x1, x2, .int .i64 K, .int .i64 S, .int .i64 P, .int .i64 O, .int .i8 Z, x8, .slice WA nW cW, .slice BA nB cB, x11, x12, x13, x14, x15, x16, x17, x18] _ (TN0.out) Try.underlying32 rfl (by kernel_rfl) ?_)
      | (refine wpList_load_mid rfl 32 (.tmp 3) rfl (w.heap.size + 1) 0 rfl [x0, x1, x2, .int .i64 K, .int .i64 S, .int .i64 P, .int .i64 O, .int .i8 Z, x8, .slice WA nW cW, .slice BA nB cB, x11, x12, x13, x14, x15, x16, x17, x18] _ (TN.out) Try.underlying32 rfl (by kernel_rfl) ?_))
  go_ret
  exact ⟨rfl, HBW.out.alloc HBW.out.size _⟩

set_option maxRecDepth 100000 in
set_option maxHeartbeats 4000000 in
theorem work_ok (H W C : Int) (x0 x1 x2 x8 x11 x12 x13 x14 x15 x16 x17 x18 : Value) (K S P O Z : Int) (WA BA : Option Addr) (nW cW nB cB : Nat) (he : convE H W C K S P O nW nB = 0) (V : Int) (hV : elemsZ (stepsM H K S P) (stepsM W K S P) O * K * K * C = V) (w : World) :
    Calls Try.prog 16 #[.agg #[.int .i64 H, .int .i64 W, .int .i64 C], .agg #[x0, x1, x2, .int .i64 K, .int .i64 S, .int .i64 P, .int .i64 O, .int .i8 Z, x8, .slice WA nW cW, .slice BA nB cB, x11, x12, x13, x14, x15, x16, x17, x18]] w fun e' w' => e' = .returned (.int .i64 V) ∧ Below w.heap.size w w' := by
  obtain ⟨hs, hw, hw2, hb⟩ := convE_ok he
  obtain ⟨a1, a2, a3, a4, a5, a6⟩ := slide_ok hs
  obtain ⟨c1, c2, c3, c4, c5, c6, c7⟩ := shapeB_yes a1
  obtain ⟨-, -, k1, k2, -⟩ := argsB_yes a2
  obtain ⟨n, hn⟩ : ∃ n, elemsZ (stepsM H K S P) (stepsM W K S P) O = n := ⟨_, rfl⟩
  have nb := elemsZ_bd (stepsM H K S P) (stepsM W K S P) O
  rw [hn] at nb
  obtain ⟨n1, n2⟩ := nb
  obtain ⟨w1, w2, w3, w4, w5, w6⟩ := work_bd (C := C) n1 n2 (by omega) (by omega) k1 (by omega)
  obtain ⟨p1, hp1⟩ : ∃ p, n * K = p := ⟨_, rfl⟩
  rw [hp1] at w1 w2 w3 w4 w5 w6
  obtain ⟨p2, hp2⟩ : ∃ p, p1 * K = p := ⟨_, rfl⟩
  rw [hp2] at w3 w4 w5 w6
  obtain ⟨p3, hp3⟩ : ∃ p, p2 * C = p := ⟨_, rfl⟩
  rw [hp3] at w5 w6
  have e1 : IntKind.i64.wrap (n * K) = p1 := by rw [hp1]; exact IntWalk.i64_in _ (by omega)
  have e2 : IntKind.i64.wrap (p1 * K) = p2 := by rw [hp2]; exact IntWalk.i64_in _ (by omega)
  have e3 : IntKind.i64.wrap (p2 * C) = p3 := by rw [hp3]; exact IntWalk.i64_in _ (by omega)
  rw [hn, hp1, hp2, hp3] at hV
  subst hV
  obtain ⟨s1, hs1⟩ : ∃ s, stepsM H K S P = s := ⟨_, rfl⟩
  obtain ⟨s2, hs2⟩ : ∃ s, stepsM W K S P = s := ⟨_, rfl⟩
  obtain ⟨s3, hs3⟩ : ∃ s : Int, O = s := ⟨_, rfl⟩
  have hv : convS H W C K S P O nW nB = #[.int .i64 s1, .int .i64 s2, .int .i64 s3] := by unfold convS; rw [if_pos he, hs1, hs2, hs3]
  rw [hs1, hs2, hs3] at hn
  have HE := Lib.hid he
  have HV := Lib.hid hv
  have HN := Lib.hid hn
  clear he hv hn hs1 hs2 hs3 hp1 hp2 hp3 hs hw hw2 hb a1 a2 a3 a4 a5 a6 c1 c2 c3 c4 c5 c6 c7
  have TN0 : Hid (NodeAt (w.heap.size + 1) x0 x1 x2 x8 x11 x12 x13 x14 x15 x16 x17 x18 K S P O Z WA BA nW cW nB cB ((w.alloc (.cells #[.int .i64 H, .int .i64 W, .int .i64 C] 23)).alloc (.cells #[x0, x1, x2, .int .i64 K, .int .i64 S, .int .i64 P, .int .i64 O, .int .i8 Z, x8, .slice WA nW cW, .slice BA nB cB, x11, x12, x13, x14, x15, x16, x17, x18] 32))) := by
    have h := NodeAt.new x0 x1 x2 x8 x11 x12 x13 x14 x15 x16 x17 x18 K S P O Z WA BA nW cW nB cB 32 (w.alloc (.cells #[.int .i64 H, .int .i64 W, .int .i64 C] 23))
    rw [World.size_alloc] at h
    exact Lib.hid h
  go_enter Try.func16, Try.ntmps16
  go_wp2_with (first
      | (go_at_call 18
         have hal : Below w.heap.size w ((w.alloc (.cells #[.int .i64 H, .int .i64 W, .int .i64 C] 23)).alloc (.cells #[x0, x1, x2, .int .i64 K, .int .i64 S, .int .i64 P, .int .i64 O, .int .i8 Z, x8, .slice WA nW cW, .slice BA nB cB, x11, x12, x13, x14, x15, x16, x17, x18] 32)) := ((Below.refl _ _).alloc (by first | exact Nat.le_refl _ | (simp; done) | (simp; omega)) _).alloc (by first | exact Nat.le_refl _ | (simp; done) | (simp; omega)) _
         refine (conv_to H W C x0 x1 x2 x8 x11 x12 x13 x14 x15 x16 x17 x18 K S P O Z WA BA nW cW nB cB _ _ HE.out HV.out _).mono ?_
         rintro e w1 ⟨rfl, hb⟩
         have hh : Below w.heap.size w w1 := hal.trans (hb.mono hal.size)
         have qTB := (shapeNew H W C 23) w
         try simp only [World.size_alloc] at qTB
         have TB := Lib.hid ((qTB.below (B' := w.heap.size + 1) (by omega) (((Below.refl _ _).alloc (by first | exact Nat.le_refl _ | (simp; done) | (simp; omega)) _).mono (by simp))).below (by first | (simp; done) | (simp; omega)) hb)
         have yTB : w.heap.size < w1.heap.size := by have := hb.size; simp at this; omega
         clear qTB
         have qTN := (NodeAt.new x0 x1 x2 x8 x11 x12 x13 x14 x15 x16 x17 x18 K S P O Z WA BA nW cW nB cB 32) (w.alloc (.cells #[.int .i64 H, .int .i64 W, .int .i64 C] 23))
         try simp only [World.size_alloc] at qTN
         have TN := Lib.hid (qTN.below (by first | (simp; done) | (simp; omega)) hb)
         have yTN : w.heap.size + 1 < w1.heap.size := by have := hb.size; simp at this; omega
         clear qTN
         have HBW : Hid (Below w.heap.size w w1) := Lib.hid hh
         obtain ⟨tbp0, tbp1, tbp2⟩ := TB.out
         clear hb hh hal)
      | (refine wpList_load_mid rfl 32 (.tmp 3) rfl (w.heap.size + 1) 0 rfl [x0, x1, x2, .int .i64 K, .int .i64 S, .int .i64 P, .int .i64 O, .int .i8 Z, x8, .slice WA nW cW, .slice BA nB cB, x11, x12, x13, x14, x15, x16, x17, x18] _ (TN0.out) Try.underlying32 rfl (by kernel_rfl) ?_)
      | (refine wpList_load_mid rfl 32 (.tmp 3) rfl (w.heap.size + 1) 0 rfl [x0, x1, x2, .int .i64 K, .int .i64 S, .int .i64 P, .int .i64 O, .int .i8 Z, x8, .slice WA nW cW, .slice BA nB cB, x11, x12, x13, x14, x15, x16, x17, x18] _ (TN.out) Try.underlying32 rfl (by kernel_rfl) ?_))
  have ySS : w1.heap.size < (w1.alloc (.cells #[.int .i64 s1, .int .i64 s2, .int .i64 s3] 23)).heap.size := by simp
  have HSS := Lib.hid (shapeNew s1 s2 s3 23 w1)
  have hal := (Below.refl w1.heap.size w1).alloc (Nat.le_refl _) (.cells #[.int .i64 s1, .int .i64 s2, .int .i64 s3] 23)
  replace TB := Lib.hid (TB.out.below yTB hal)
  replace TN := Lib.hid (TN.out.below yTN hal)
  replace HBW := Lib.hid (HBW.out.trans (hal.mono HBW.out.size))
  replace yTB := Nat.lt_of_lt_of_le yTB hal.size
  replace yTN := Nat.lt_of_lt_of_le yTN hal.size
  clear hal
  refine wp_region_held_drew (S := fun W' => ShapeAt (w1.heap.size) s1 s2 s3 W' ∧ ShapeAt (w.heap.size) H W C W' ∧ NodeAt (w.heap.size + 1) x0 x1 x2 x8 x11 x12 x13 x14 x15 x16 x17 x18 K S P O Z WA BA nW cW nB cB W') (by kernel_rfl) ⟨HSS.out.below ySS (Below.refl _ _).drew, TB.out.below yTB (Below.refl _ _).drew, TN.out.below yTN (Below.refl _ _).drew⟩ (fun hHeld => ?_)
  refine wpAnyH_take (i := 0) (oi := ({ dst := some 15, op := Op.load 23 (Operand.tmp 5), type := 23, pos := "lower.go:49", after := #[], guard := none } : Oper)) (v := ?_) rfl (by kernel_rfl) (by kernel_rfl) (by kernel_rfl) (fun _ _ _ h => h) (Or.inl ⟨by rfl, ?_⟩) (by assumption) ?_
  rotate_left
  · intro wS hSw
    obtain ⟨⟨q0, q1, q2⟩, -, -⟩ := hSw
    first
      | (go_simp; done)
      | (go_simp; with_reducible rfl)
  try simp only [Act.put, List.setIfInBounds_toArray, List.set_cons_zero, List.set_cons_succ]
  refine wpAnyH_take (i := 2) (oi := ({ dst := some 17, op := Op.fieldAddr 32 (Operand.tmp 3) 3, type := 0, pos := "lower.go:49", after := #[], guard := none } : Oper)) (v := ?_) rfl (by kernel_rfl) (by kernel_rfl) (by kernel_rfl) (fun _ _ _ h => h) (Or.inl ⟨by rfl, ?_⟩) (by assumption) ?_
  rotate_left
  · intro wS hSw
    first
      | (go_simp; done)
      | (go_simp; with_reducible rfl)
  try simp only [Act.put, List.setIfInBounds_toArray, List.set_cons_zero, List.set_cons_succ]
  refine wpAnyH_take (i := 3) (oi := ({ dst := some 18, op := Op.load 3 (Operand.tmp 17), type := 3, pos := "lower.go:49", after := #[{ on := 2, ground := Ground.data }], guard := none } : Oper)) (v := ?_) rfl (by kernel_rfl) (by kernel_rfl) (by kernel_rfl) (fun _ _ _ h => h) (Or.inl ⟨by rfl, ?_⟩) (by assumption) ?_
  rotate_left
  · intro wS hSw
    have q0 := hSw.2.2.at 3 (.int .i64 K) rfl
    first
      | (go_simp; done)
      | (go_simp; with_reducible rfl)
  try simp only [Act.put, List.setIfInBounds_toArray, List.set_cons_zero, List.set_cons_succ]
  refine wpAnyH_take (i := 5) (oi := ({ dst := some 20, op := Op.fieldAddr 32 (Operand.tmp 3) 3, type := 0, pos := "lower.go:49", after := #[], guard := none } : Oper)) (v := ?_) rfl (by kernel_rfl) (by kernel_rfl) (by kernel_rfl) (fun _ _ _ h => h) (Or.inl ⟨by rfl, ?_⟩) (by assumption) ?_
  rotate_left
  · intro wS hSw
    first
      | (go_simp; done)
      | (go_simp; with_reducible rfl)
  try simp only [Act.put, List.setIfInBounds_toArray, List.set_cons_zero, List.set_cons_succ]
  refine wpAnyH_take (i := 6) (oi := ({ dst := some 21, op := Op.load 3 (Operand.tmp 20), type := 3, pos := "lower.go:49", after := #[{ on := 5, ground := Ground.data }], guard := none } : Oper)) (v := ?_) rfl (by kernel_rfl) (by kernel_rfl) (by kernel_rfl) (fun _ _ _ h => h) (Or.inl ⟨by rfl, ?_⟩) (by assumption) ?_
  rotate_left
  · intro wS hSw
    have q0 := hSw.2.2.at 3 (.int .i64 K) rfl
    first
      | (go_simp; done)
      | (go_simp; with_reducible rfl)
  try simp only [Act.put, List.setIfInBounds_toArray, List.set_cons_zero, List.set_cons_succ]
  refine wpAnyH_take (i := 8) (oi := ({ dst := some 23, op := Op.fieldAddr 23 (Operand.tmp 2) 2, type := 0, pos := "lower.go:49", after := #[], guard := none } : Oper)) (v := ?_) rfl (by kernel_rfl) (by kernel_rfl) (by kernel_rfl) (fun _ _ _ h => h) (Or.inl ⟨by rfl, ?_⟩) (by assumption) ?_
  rotate_left
  · intro wS hSw
    first
      | (go_simp; done)
      | (go_simp; with_reducible rfl)
  try simp only [Act.put, List.setIfInBounds_toArray, List.set_cons_zero, List.set_cons_succ]
  refine wpAnyH_take (i := 9) (oi := ({ dst := some 24, op := Op.load 3 (Operand.tmp 23), type := 3, pos := "lower.go:49", after := #[{ on := 8, ground := Ground.data }], guard := none } : Oper)) (v := ?_) rfl (by kernel_rfl) (by kernel_rfl) (by kernel_rfl) (fun _ _ _ h => h) (Or.inl ⟨by rfl, ?_⟩) (by assumption) ?_
  rotate_left
  · intro wS hSw
    obtain ⟨-, ⟨q0, q1, q2⟩, -⟩ := hSw
    first
      | (go_simp; done)
      | (go_simp; with_reducible rfl)
  try simp only [Act.put, List.setIfInBounds_toArray, List.set_cons_zero, List.set_cons_succ]
  refine wpAnyH_ready (rs := [1]) (by kernel_rfl) (by simp) ?_
  refine AllReadyH.cons (o := ({ dst := some 16, op := Op.call { callee := Callee.value (Operand.func 19), args := #[Operand.tmp 15], argTypes := #[23] }, type := 3, pos := "lower.go:49", after := #[{ on := 0, ground := Ground.data }], guard := none } : Oper)) rfl (fun K hK => ?_) (AllReadyH.nil)
  go_simp
  go_at_call 19
  refine (elems_to s1 s2 s3 n HN.out _).mono ?_
  rintro e w3 ⟨rfl, hb⟩
  replace hb := (Below.refl _ _).drew.trans hb
  have HSS2 := Lib.hid (HSS.out.below ySS hb)
  have TB2 := Lib.hid (TB.out.below yTB hb)
  have TN2 := Lib.hid (TN.out.below yTN hb)
  have HBW2 := Lib.hid (HBW.out.trans (hb.mono HBW.out.size))
  clear hHeld
  dsimp only
  refine hK.out _ _ ?_ (fun hHeld => ?_)
  · exact ⟨HSS2.out, TB2.out, TN2.out⟩
  clear hK K
  try simp only [Act.put, List.setIfInBounds_toArray, List.set_cons_zero, List.set_cons_succ]
  refine wpAnyH_take (i := 4) (oi := ({ dst := some 19, op := Op.binOp BinOp.mul 3 (Operand.tmp 16) (Operand.tmp 18) 3, type := 3, pos := "lower.go:49", after := #[{ on := 1, ground := Ground.data }, { on := 3, ground := Ground.data }], guard := none } : Oper)) (v := ?_) rfl (by kernel_rfl) (by kernel_rfl) (by kernel_rfl) (fun _ _ _ h => h) (Or.inl ⟨by rfl, ?_⟩) (by assumption) ?_
  rotate_left
  · intro wS hSw
    first
      | (go_simp; done)
      | (go_simp; with_reducible rfl)
  try simp only [Act.put, List.setIfInBounds_toArray, List.set_cons_zero, List.set_cons_succ]
  refine wpAnyH_take (i := 7) (oi := ({ dst := some 22, op := Op.binOp BinOp.mul 3 (Operand.tmp 19) (Operand.tmp 21) 3, type := 3, pos := "lower.go:49", after := #[{ on := 4, ground := Ground.data }, { on := 6, ground := Ground.data }], guard := none } : Oper)) (v := ?_) rfl (by kernel_rfl) (by kernel_rfl) (by kernel_rfl) (fun _ _ _ h => h) (Or.inl ⟨by rfl, ?_⟩) (by assumption) ?_
  rotate_left
  · intro wS hSw
    first
      | (go_simp; done)
      | (go_simp; with_reducible rfl)
  try simp only [Act.put, List.setIfInBounds_toArray, List.set_cons_zero, List.set_cons_succ]
  refine wpAnyH_take (i := 10) (oi := ({ dst := some 25, op := Op.binOp BinOp.mul 3 (Operand.tmp 22) (Operand.tmp 24) 3, type := 3, pos := "lower.go:49", after := #[{ on := 7, ground := Ground.data }, { on := 9, ground := Ground.data }], guard := none } : Oper)) (v := ?_) rfl (by kernel_rfl) (by kernel_rfl) (by kernel_rfl) (fun _ _ _ h => h) (Or.inl ⟨by rfl, ?_⟩) (by assumption) ?_
  rotate_left
  · intro wS hSw
    first
      | (go_simp; done)
      | (go_simp; with_reducible rfl)
  try simp only [Act.put, List.setIfInBounds_toArray, List.set_cons_zero, List.set_cons_succ]
  refine wpAnyH_take (i := 11) (oi := ({ dst := some 4, op := Op.assign (Operand.tmp 25), type := 3, pos := "lower.go:49", after := #[{ on := 10, ground := Ground.data }, { on := 1, ground := Ground.chain }, { on := 0, ground := Ground.phase }, { on := 1, ground := Ground.phase }, { on := 2, ground := Ground.phase }, { on := 3, ground := Ground.phase }, { on := 4, ground := Ground.phase }, { on := 5, ground := Ground.phase }, { on := 6, ground := Ground.phase }, { on := 7, ground := Ground.phase }, { on := 8, ground := Ground.phase }, { on := 9, ground := Ground.phase }, { on := 10, ground := Ground.phase }], guard := none } : Oper)) (v := ?_) rfl (by kernel_rfl) (by kernel_rfl) (by kernel_rfl) (fun _ _ _ h => h) (Or.inl ⟨by rfl, ?_⟩) (by assumption) ?_
  rotate_left
  · intro wS hSw
    first
      | (go_simp; done)
      | (go_simp; with_reducible rfl)
  try simp only [Act.put, List.setIfInBounds_toArray, List.set_cons_zero, List.set_cons_succ]
  refine wpAnyH_done (by kernel_rfl) ?_ _
  go_wp2_with fail
  go_ret
  exact ⟨rfl, HBW2.out⟩

end Go.Proofs.Ytoobpjdbdikbiaa.CLower
