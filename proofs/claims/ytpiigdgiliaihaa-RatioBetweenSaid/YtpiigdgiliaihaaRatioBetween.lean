/- RatioBetween: a scale is not above what it is of, and with Mult one more it is; the call returns true and leaves its arguments as they were. No condition. -/
import Derived.Test.YtpiigdgiliaihaaRatioKnown
namespace Go.Proofs.Ytpiigdgiliaihaa.lawRatioBetween
open Go Go.ChangeShapes Go.WideShapes Go.ChangeAt Go.RowKit
open Plain CSat CFix Num CRatio
set_option linter.unusedVariables false

theorem walk (a : Int) (wa : (Lit.int .u16 a).wf = true) (b : Int) (wb : (Lit.int .u16 b).wf = true) (w : World) :
    Calls Try.prog 4 #[.int .u16 a, .int .u16 b] w fun e w' => e = .returned (.bool true) ∧ Below w.heap.size w w' := by
  obtain ⟨a1, a2⟩ := bounds_u16 wa
  obtain ⟨b1, b2⟩ := bounds_u16 wb
  clear wa wb
  obtain ⟨N, hN⟩ : ∃ N : Nat, a + 1 = (N : Int) := ⟨(a + 1).toNat, by omega⟩
  obtain ⟨D, hD⟩ : ∃ N : Nat, b + 1 = (N : Int) := ⟨(b + 1).toNat, by omega⟩
  obtain ⟨j, hj⟩ := isOf N D (by omega) (by omega)
  have j46 : j ≤ 46 := hj.short (Nat.le_trans (Nat.mul_le_mul_right _ (show D ≤ 65536 by omega)) (Nat.le_trans (by decide : 65536 * 1073741824 ≤ 1 * 2 ^ 46) (Nat.mul_le_mul_right _ (show 1 ≤ N by omega))))
  obtain ⟨q, hq⟩ : ∃ q, N * 2 ^ j / D = q := ⟨_, rfl⟩
  have hof : ∀ w : World, Calls Try.prog 7 #[.int .i64 (a + 1), .int .i64 (b + 1)] w fun e w' => e = .returned (.tuple #[.agg #[.int .i32 (q : Int), .int .i64 (j : Int), .int .i8 0], .int .i64 0]) ∧ Below w.heap.size w w' := fun w => by
    rw [hN, hD]
    exact of_good N D j q (by omega) (by omega) (by omega) (by omega) hj hq w
  obtain ⟨P, hP⟩ : ∃ P : Int, ((2 ^ j : Nat) : Int) = P := ⟨_, rfl⟩
  have hX : ((N * 2 ^ j : Nat) : Int) = (a + 1) * P := by rw [Int.natCast_mul, hP, hN]
  have d1 := Nat.div_add_mod (N * 2 ^ j) D
  have d2 := Nat.mod_lt (N * 2 ^ j) (show 0 < D by omega)
  rw [hq] at d1
  have t := hj.top (by omega) (by omega)
  have hq0 : 1073741824 ≤ q := by rw [← hq]; exact (Nat.le_div_iff_mul_le (by omega)).2 (by have := hj.2.2; omega)
  have hq9 : q < 2147483648 := by rw [← hq]; exact Nat.div_lt_of_lt_mul (by omega)
  have hQD : ((D * q : Nat) : Int) = (q : Int) * (b + 1) := by rw [Int.natCast_mul, hD, Int.mul_comm]
  obtain ⟨Q, hQ⟩ : ∃ Q : Int, (q : Int) = Q := ⟨_, rfl⟩
  obtain ⟨J, hJ⟩ : ∃ J : Int, (j : Int) = J := ⟨_, rfl⟩
  rw [hQ] at hQD
  have hpow : (2 : Int) ^ J.toNat = P := by rw [← hP, ← hJ]; simp
  have hQ1 : (Q + 1) * (b + 1) = Q * (b + 1) + (b + 1) := by rw [Int.add_mul, Int.one_mul]
  have k1 : Q * (b + 1) ≤ (a + 1) * P := by omega
  have k2 : (a + 1) * P < (Q + 1) * (b + 1) := by omega
  have k3 : 0 ≤ Q * (b + 1) := by omega
  have k4 : (Q + 1) * (b + 1) ≤ 200000000000000 := by omega
  have q1 : 1073741824 ≤ Q := by omega
  have q2 : Q ≤ 2147483647 := by omega
  have J1 : 0 ≤ J := by omega
  have J2 : J ≤ 46 := by omega
  have P1 : 1 ≤ P := by rw [← hP]; have := Nat.two_pow_pos j; omega
  rw [hQ, hJ] at hof
  have HO := Lib.hid hof
  clear hof hQ hJ hP hX d1 d2 hq t hq0 hq9 hQD hQ1 hN hD hj j46
  go_enter Try.func4, Try.ntmps4
  go_wp2_with (first
    | (go_at_call 7; (refine (HO.out _).mono ?_; rintro e w1 ⟨rfl, h1⟩; have l1 : w.heap.size ≤ w1.heap.size := h1.size))
    | (go_at_call 9; refine (known03 _).mono ?_; rintro e w6 ⟨rfl, h6⟩))
  go_ret
  exact ⟨rfl, (by go_grown : Below w.heap.size w _).trans (h6.mono (by simp; omega))⟩
/-! ### the frame: written by program -/
theorem own : ownKnob Try.prog.godebug = none := by kernel_rfl
theorem laid : laidOutB Try.prog = true := by kernel_rfl
theorem contract {H : Type} {enc : TypeId × Value → H} {W : World} {base : Nat} {args : Array Value} {ds gs : List (DataW H)} {before : List MemPlace}
    (hval0 : ∀ (j : Nat) t v, Try.f4.params[j]? = some t → args[j]? = some v → Value.okWide Try.prog W .any base t v)
    (hW : DataW.Whole enc Try.prog Try.f4.params.toList Rows.ratioBetweenSpec.vars false W args.toList ds gs before) :
    Calls Try.prog 4 args W fun e W' => e = .returned (.bool true) ∧ Below W.heap.size W W' := by
  have hval : ∀ (j : Nat) t v, Try.f4.params[j]? = some t → args[j]? = some v → Value.okWide Try.prog W .any base t v := hval0
  obtain ⟨p, q, hA0, hV, rfl, hfz, hnd⟩ := hW
  have hA : DataW.TrodAll enc Try.prog W 0 (fun _ => true) true Try.f4.params.toList args.toList ds p := hA0
  rw [Try.params4] at hA hval
  obtain ⟨v0, vs0, d0, ds0, p0, q0, hargs, rfl, rfl, h0, r0⟩ := trodAll_cons hA
  obtain ⟨v1, vs1, d1, ds1, p1, q1, rfl, rfl, rfl, h1, r1⟩ := trodAll_cons r0
  obtain ⟨rfl, rfl, rfl⟩ := trodAll_nil r1
  obtain rfl : args = #[v0, v1] := by cases args; simp_all
  clear hA0 hval0
  obtain ⟨a0, rfl, rfl, rfl, w0⟩ := open_int Try.underlying32 (hval 0 32 v0 rfl rfl) h0
  obtain ⟨a1, rfl, rfl, rfl, w1⟩ := open_int Try.underlying32 (hval 1 32 v1 rfl rfl) h1
  exact walk (w := W) a0 w0 a1 w1
theorem fnIs {H : Type} : ∀ ds : List (DataW H), ds.length = Try.f4.params.toList.length → Rows.ratioBetweenSpec.fn H ds = { results := [.lit (.bool true)], args := ds } := by
  intro ds h
  rw [Try.params4] at h
  match ds, h with
  | [d1, d2], _ => rfl
set_option maxRecDepth 100000 in
theorem lifted (os : Os) (started : os.Started) (H : Type) (enc : TypeId × Value → H) :
    ReturnsInHanded {} Try.checked os 4 .any (Rows.ratioBetweenSpec.pre6 enc Try.prog Try.f4 Rows.ratioBetweenRow.domain false) (Rows.ratioBetweenSpec.post enc Try.prog Try.f4 false true false false) := by
  refine returnsInHanded_of_change (C := Try.checked) own started (by kernel_rfl) Try.func4
    (ChangeSpec.witness6 (enc := enc) (C := Try.checked) false ⟨#[], #[.int .u16 0, .int .u16 0], []⟩ 8 (by kernel_rfl) (by kernel_rfl) (by kernel_rfl) (by kernel_rfl)) ?_
  intro W base args ds gs before hval hW _ _
  refine (contract hval hW).mono fun e W' ⟨he, hg⟩ => ?_
  subst he
  exact ⟨_, rfl, Kit.law_post (tb := 4) laid (by kernel_rfl) rfl (by kernel_rfl) Try.underlying4 fnIs hW hg⟩
theorem over : Rows.ratioBetweenRow.holds Try.pinned (OpenSpec.ofChange Rows.ratioBetweenSpec) :=
  OpenClaim.holds_of_wide 4 Try.f4 rfl rfl rfl rfl rfl rfl rfl ⟨rfl, rfl, rfl, rfl, rfl⟩ rfl rfl rfl rfl rfl (by kernel_rfl) Try.func4 (by kernel_rfl)
    (of_decide_eq_true (by kernel_rfl)) (by unfold Func.isWrapper; first | (rw [if_pos (by decide +kernel)]; kernel_rfl) | (rw [if_neg (by decide +kernel)]; exact ⟨rfl, rfl⟩))
    (fun os started H enc _ => lifted os started H enc)
/-- the statement. -/
theorem proved : Rows.RatioBetweenSaid :=
  over
end Go.Proofs.Ytpiigdgiliaihaa.lawRatioBetween
