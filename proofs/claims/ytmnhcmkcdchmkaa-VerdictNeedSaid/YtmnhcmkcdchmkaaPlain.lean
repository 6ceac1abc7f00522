/- Plain facts on integers (wraps, bits, limits): no program is named here. -/
import Derived.WalkKit
import Derived.Laws.BitsLemmas
import Derived.Lib.Hide
namespace Go.Proofs.Ytmnhcmkcdchmkaa.Plain
open Go Go.RowKit

/-- 64 bits: the and of two xors is below 0 just if both pairs differ in sign. -/
theorem xor_and_neg (s a b : Int) (hs1 : -9223372036854775808 ≤ s) (hs2 : s ≤ 9223372036854775807)
    (ha1 : -9223372036854775808 ≤ a) (ha2 : a ≤ 9223372036854775807) (hb1 : -9223372036854775808 ≤ b) (hb2 : b ≤ 9223372036854775807) :
    decide (bits .and .i64 (bits .xor .i64 s a) (bits .xor .i64 s b) < 0) = (((decide (s < 0)) ^^ (decide (a < 0))) && ((decide (s < 0)) ^^ (decide (b < 0)))) := by
  have back : ∀ r : BitVec 64, IntKind.i64.wrap (r.toNat : Int) = r.toInt := by
    intro r
    rw [IntKind.wrap_i64, BitVec.toInt_eq_toNat_bmod]
    have := r.isLt
    rw [Int.bmod_def]
    split <;> omega
  have neg : ∀ x : Int, -9223372036854775808 ≤ x → x ≤ 9223372036854775807 → (BitVec.ofInt 64 x).msb = decide (x < 0) := by
    intro x h1 h2
    rw [BitVec.msb_eq_toInt, BitVec.toInt_ofInt, Int.bmod_def]
    congr 1
    apply propext
    split <;> omega
  have e : bits .and .i64 (bits .xor .i64 s a) (bits .xor .i64 s b) = ((BitVec.ofInt 64 s ^^^ BitVec.ofInt 64 a) &&& (BitVec.ofInt 64 s ^^^ BitVec.ofInt 64 b)).toInt := by
    show IntKind.i64.wrap ((BitVec.ofInt 64 (IntKind.i64.wrap ((BitVec.ofInt 64 s ^^^ BitVec.ofInt 64 a).toNat : Int)) &&& BitVec.ofInt 64 (IntKind.i64.wrap ((BitVec.ofInt 64 s ^^^ BitVec.ofInt 64 b).toNat : Int))).toNat : Int) = _
    simp only [back, BitVec.ofInt_toInt]
  rw [e, ← BitVec.msb_eq_toInt, BitVec.msb_and, BitVec.msb_xor, BitVec.msb_xor, neg s hs1 hs2, neg a ha1 ha2, neg b hb1 hb2]

def clampZ (v lo hi : Int) : Int := if v < lo then lo else if v > hi then hi else v
/-- does an integer fit 64 bits? -/
def fits (v : Int) : Bool := decide (-9223372036854775808 ≤ v ∧ v ≤ 9223372036854775807)
def fitZ (v : Int) : Int := if fits v then v else 0

theorem fits_yes {v : Int} (h1 : -9223372036854775808 ≤ v) (h2 : v ≤ 9223372036854775807) : fits v = true := by simp [fits, h1, h2]
theorem fits_no {v : Int} (h : v < -9223372036854775808 ∨ 9223372036854775807 < v) : fits v = false := by
  simp [fits]; omega

theorem clampZ_lo {v lo hi : Int} (h : v < lo) : lo = clampZ v lo hi := by unfold clampZ; rw [if_pos h]
theorem clampZ_hi {v lo hi : Int} (h : lo ≤ v) (h2 : hi < v) : hi = clampZ v lo hi := by unfold clampZ; rw [if_neg (by omega), if_pos h2]
theorem clampZ_in {v lo hi : Int} (h : lo ≤ v) (h2 : v ≤ hi) : v = clampZ v lo hi := by unfold clampZ; rw [if_neg (by omega), if_neg (by omega)]
theorem fitZ_yes {v : Int} (h1 : -9223372036854775808 ≤ v) (h2 : v ≤ 9223372036854775807) : fitZ v = v := by unfold fitZ; rw [if_pos (fits_yes h1 h2)]
theorem fitZ_no {v : Int} (h : v < -9223372036854775808 ∨ 9223372036854775807 < v) : fitZ v = 0 := by unfold fitZ; rw [if_neg (by simp [fits_no h])]
/-- a sum of two that wraps: when the signs tell. -/
theorem plus_test (a b : Int) (ha1 : -9223372036854775808 ≤ a) (ha2 : a ≤ 9223372036854775807) (hb1 : -9223372036854775808 ≤ b) (hb2 : b ≤ 9223372036854775807) :
    decide (bits .and .i64 (bits .xor .i64 (wrap64 (a + b)) a) (bits .xor .i64 (wrap64 (a + b)) b) < 0) = !fits (a + b) := by
  have h : -9223372036854775808 ≤ wrap64 (a + b) ∧ wrap64 (a + b) ≤ 9223372036854775807 := by unfold wrap64; omega
  rw [xor_and_neg _ a b h.1 h.2 ha1 ha2 hb1 hb2]
  by_cases f : -9223372036854775808 ≤ a + b ∧ a + b ≤ 9223372036854775807
  · rw [fits_yes f.1 f.2, IntWalk.wrap64_in _ f]
    by_cases p : a < 0 <;> by_cases q : b < 0 <;> by_cases r : a + b < 0 <;> simp [p, q, r] <;> omega
  · rw [fits_no (by omega)]
    by_cases g : a + b < 0
    · have e : wrap64 (a + b) = a + b + 18446744073709551616 := by unfold wrap64; omega
      rw [e]; simp; omega
    · have e : wrap64 (a + b) = a + b - 18446744073709551616 := by unfold wrap64; omega
      rw [e]; simp; omega

theorem times_yes (a b : Int) (hb : b ≠ 0) (h : -9223372036854775808 ≤ a * b ∧ a * b ≤ 9223372036854775807) (ha : -9223372036854775808 ≤ a ∧ a ≤ 9223372036854775807) :
    (wrap64 ((wrap64 (a * b)).tdiv b) != a) = false ∧ ((wrap64 (a * b)).tmod b != 0) = false ∧ wrap64 (a * b) = a * b := by
  rw [IntWalk.wrap64_in _ h, Int.mul_tdiv_cancel a hb, Int.mul_tmod_left, IntWalk.wrap64_in _ ha]
  simp

theorem times_no (a b : Int) (hb : b ≠ 0) (h : ¬ (-9223372036854775808 ≤ a * b ∧ a * b ≤ 9223372036854775807)) (ha : -9223372036854775808 ≤ a ∧ a ≤ 9223372036854775807)
    (hs : ¬ (a = -9223372036854775808 ∧ b = -1)) :
    (wrap64 ((wrap64 (a * b)).tdiv b) != a) = true ∨ ((wrap64 ((wrap64 (a * b)).tdiv b) != a) = false ∧ ((wrap64 (a * b)).tmod b != 0) = true) := by
  by_cases e : wrap64 ((wrap64 (a * b)).tdiv b) = a
  · right
    refine ⟨by simp [e], ?_⟩
    rw [bne_iff_ne]
    intro hm
    have hw : -9223372036854775808 ≤ wrap64 (a * b) ∧ wrap64 (a * b) ≤ 9223372036854775807 := by unfold wrap64; omega
    generalize wrap64 (a * b) = P at *
    have hd := Int.mul_tdiv_add_tmod P b
    rw [hm, Int.add_zero] at hd
    by_cases hq : -9223372036854775808 ≤ P.tdiv b ∧ P.tdiv b ≤ 9223372036854775807
    · rw [IntWalk.wrap64_in _ hq] at e
      rw [e, Int.mul_comm] at hd
      omega
    · have hn : (P.tdiv b).natAbs = P.natAbs / b.natAbs := Int.natAbs_tdiv P b
      have hle : P.natAbs / b.natAbs ≤ P.natAbs := Nat.div_le_self _ _
      have hQ : (P.tdiv b).natAbs = 9223372036854775808 := by omega
      have hP : P.natAbs = 9223372036854775808 := by omega
      have hb1 : b.natAbs = 1 := by
        rcases Nat.lt_or_ge 1 b.natAbs with hlt | hge
        · have : P.natAbs / b.natAbs < P.natAbs := Nat.div_lt_self (by omega) hlt
          omega
        · omega
      have hbb : b = 1 ∨ b = -1 := by omega
      rcases hbb with rfl | rfl
      · rw [Int.tdiv_one] at hQ hq; omega
      · refine hs ⟨?_, rfl⟩
        have : P.tdiv (-1) = 9223372036854775808 := by omega
        rw [← e, this]; unfold wrap64; omega
  · left; simp [e]
end Go.Proofs.Ytmnhcmkcdchmkaa.Plain
