/- Layer 19 (pool): the document's Near, Mean, Window. -/
import Derived.Test.YtccngjgbhbeobaaPoolNum
import Derived.Test.YtccngjgbhbeobaaConvOf
import Derived.BigQuiet
import Derived.Laws.AppendOwn
namespace Go.Proofs.Ytccngjgbhbeobaa.CPool
open Go Go.ChangeShapes Go.WideShapes Go.ChangeAt Go.RowKit
open Plain CSat CShape CTensor CConv
set_option linter.unusedVariables false

set_option maxHeartbeats 2000000 in
theorem refNear_to (s m : Int) (s1 : -4611686018427387904 ≤ s) (s2 : s ≤ 4611686018427387904) (m2 : m ≤ 9223372036854775807) (R : Int) (hR : nearZ s m = R) (w : World) :
    Calls Try.prog 8 #[.int .i64 s, .int .i64 m] w fun e w' => e = .returned (.int .i64 R) ∧ ∃ q, w' = w.drewN q := by
  by_cases hm : m < 1
  · have h0 : R = 0 := by rw [← hR]; unfold nearZ; rw [if_pos hm]
    subst h0
    clear hR
    go_enter Try.func8, Try.ntmps8
    go_wp2_with fail
    go_ret
    exact ⟨rfl, 0, rfl⟩
  · have hm1 : 1 ≤ m := by omega
    have hm9 : ¬ m = 0 := by omega
    obtain ⟨z, hz⟩ : ∃ z, z = (if s < 0 then -s else s) := ⟨_, rfl⟩
    have hz0 : 0 ≤ z ∧ z ≤ 4611686018427387904 := by
      rw [hz]; split <;> omega
    have hzr : (2 * z + m) / (2 * m) = if m - z % m ≤ z % m then z / m + 1 else z / m := near_way hm1 hz0.1
    have hRz : R = if s < 0 then -((2 * z + m) / (2 * m)) else (2 * z + m) / (2 * m) := by
      rw [← hR, hz]
      unfold nearZ
      rw [if_neg hm]
      by_cases hs : s < 0
      · rw [if_pos hs, if_pos hs, if_pos hs]
      · rw [if_neg hs, if_neg hs, if_neg hs]
    rw [hzr] at hRz
    have r1 : 0 ≤ z % m := Int.emod_nonneg _ (by omega)
    have r2 : z % m < m := Int.emod_lt_of_pos _ (by omega)
    have q1 : 0 ≤ z / m := Int.ediv_nonneg hz0.1 (by omega)
    have q2 : z / m ≤ z := Int.ediv_le_self _ hz0.1
    have d1 : z.tdiv m = z / m := Int.tdiv_eq_ediv_of_nonneg hz0.1
    have d2 : z.tmod m = z % m := Int.tmod_eq_emod_of_nonneg hz0.1
    generalize z / m = q at hRz q1 q2 d1
    generalize z % m = r at hRz r1 r2 d2
    have w1 : IntKind.i64.wrap q = q := IntWalk.i64_in _ (by omega)
    have w2 : IntKind.i64.wrap r = r := IntWalk.i64_in _ (by omega)
    have w3 : IntKind.i64.wrap (m - r) = m - r := IntWalk.i64_in _ (by omega)
    have w4 : IntKind.i64.wrap (q + 1) = q + 1 := IntWalk.i64_in _ (by omega)
    have w5 : IntKind.i64.wrap (-(q + 1)) = -(q + 1) := IntWalk.i64_in _ (by omega)
    have w6 : IntKind.i64.wrap (-q) = -q := IntWalk.i64_in _ (by omega)
    have w7 : IntKind.i64.wrap (-s) = -s := IntWalk.i64_in _ (by omega)
    clear hR hzr
    by_cases hs : s < 0 <;> by_cases hr : m - r ≤ r
    · rw [if_pos hs] at hz
      rw [if_pos hs, if_pos hr] at hRz
      subst hz hRz
      go_enter Try.func8, Try.ntmps8
      go_wp2_with fail
      go_quiet (fail)
      go_wp2_with fail
      go_ret
      exact ⟨rfl, _, rfl⟩
    · rw [if_pos hs] at hz
      rw [if_pos hs, if_neg hr] at hRz
      subst hz hRz
      go_enter Try.func8, Try.ntmps8
      go_wp2_with fail
      go_quiet (fail)
      go_wp2_with fail
      go_ret
      exact ⟨rfl, _, rfl⟩
    · rw [if_neg hs] at hz
      rw [if_neg hs, if_pos hr] at hRz
      subst hz hRz
      go_enter Try.func8, Try.ntmps8
      go_wp2_with fail
      go_quiet (fail)
      go_wp2_with fail
      go_ret
      exact ⟨rfl, _, rfl⟩
    · rw [if_neg hs] at hz
      rw [if_neg hs, if_neg hr] at hRz
      subst hz hRz
      go_enter Try.func8, Try.ntmps8
      go_wp2_with fail
      go_quiet (fail)
      go_wp2_with fail
      go_ret
      exact ⟨rfl, _, rfl⟩
/-- the mean of some numbers, of 8 bits. -/
def meanZ (zs : List Int) : Int := IntKind.i8.wrap (nearZ (psum (fun i => zs.getD i 0) zs.length) zs.length)
theorem refMean_to (A : Option Addr) (zs : List Int) (n c : Nat) (hn : zs.length = n) (hn2 : n ≤ 1000000) (hz : I8b zs) (w : World) {B : Nat} (hr : Kit.Rd w B A (I8s zs)) :
    Calls Try.prog 16 #[.slice A n c] w fun e w' => e = .returned (.int .i8 (meanZ zs)) ∧ ∃ q, w' = w.drewN q := by
  have hM : IntKind.i8.wrap (nearZ (psum (fun i => zs.getD i 0) n) n) = meanZ zs := by unfold meanZ; rw [hn]
  have HM := Lib.hid hM
  have HR := Lib.hid hr
  have HN := Lib.hid hn
  have HZ := Lib.hid hz
  clear hM hr hn hz
  go_enter Try.func16, Try.ntmps16
  go_wp2_with fail
  go_loopw [3, 4] (fun s u wr => ∃ k : Nat, k ≤ n ∧ u = .int .i64 k ∧ s = .int .i64 (psum (fun i => zs.getD i 0) k) ∧ Hid (wr = w)) (fun _ u _ => n - (intOf u).toNat)
  case atStart => exact ⟨0, Nat.zero_le _, rfl, rfl, Lib.hid rfl⟩
  case round =>
    obtain ⟨k, hk, rfl, rfl, hw⟩ := hrel
    obtain rfl := hw.out
    clear hw
    obtain ⟨q1, q2⟩ := psum_bd (G := fun i => zs.getD i 0) (b := 128) (n := k) (fun j _ => by have := HZ.out j; omega)
    by_cases hlt : k < n
    · obtain ⟨b1, o1, rfl, _, hcx0⟩ := ints_getD HR.out (j := 0) (by have := HN.out; omega)
      have hcx := hcx0 k (by have := HN.out; omega)
      have hk0 : (0 : Int) ≤ (k : Int) := by omega
      have hkn : (k : Int) < (n : Int) := by omega
      obtain ⟨x1, x2⟩ := HZ.out k
      have hnext : psum (fun i => zs.getD i 0) k + zs.getD k 0 = psum (fun i => zs.getD i 0) (k + 1) := rfl
      generalize zs.getD k 0 = x at hcx x1 x2 hnext
      obtain ⟨u1, hu1⟩ : ∃ u1, psum (fun i => zs.getD i 0) k = u1 := ⟨_, rfl⟩
      obtain ⟨u2, hu2⟩ : ∃ u2, psum (fun i => zs.getD i 0) (k + 1) = u2 := ⟨_, rfl⟩
      have HU2 := Lib.hid hu2
      rw [hu1, hu2] at hnext
      rw [hu1] at q1 q2 ⊢
      have e1 : IntKind.i64.wrap x = x := IntWalk.i64_in _ (by omega)
      have e2 : IntKind.i64.wrap (u1 + x) = u2 := by rw [IntWalk.i64_in _ (by omega), hnext]
      clear hu1 hu2 hcx0 hnext
      go_wp2_with fail
      go_roundw
      case rel => first | exact ⟨k + 1, by omega, by go_num, congrArg _ HU2.out.symm, Lib.hid rfl⟩ | exact ⟨k + 1, by omega, by go_num, congrArg _ HU2.out.symm, Lib.hid trivial⟩
      case measure => simp [intOf]; omega
    · obtain rfl : k = n := by omega
      have hmz := HM.out
      generalize psum (fun i => zs.getD i 0) k = u1 at q1 q2 hmz ⊢
      obtain ⟨R, hR⟩ : ∃ R, nearZ u1 (k : Int) = R := ⟨_, rfl⟩
      have HRR := Lib.hid hR
      rw [hR] at hmz
      clear hR
      go_wp2_with (go_at_call 8; (refine (refNear_to u1 (k : Int) (by omega) (by omega) (by omega) R HRR.out _).mono ?_); rintro e w1 ⟨rfl, q, rfl⟩)
      go_ret
      exact ⟨rfl, q, rfl⟩
end Go.Proofs.Ytccngjgbhbeobaa.CPool
