/- Texts of this seat, one behind the other: FloatNum. -/
import Derived.WalkKit
import Derived.Laws.ComplexArith
import Derived.Lib.Hide
section
namespace Go.Proofs.YtoghpoopgkahiaaGreatDoor.FloatNum
open Go Go.RowKit
set_option linter.unusedVariables false
/-- a datum is the whole number n. -/
def IsD (d : Ieee.Datum) (n : Int) : Prop := ∃ s m k, d = .number s m (-(k : Nat) : Int) ∧ Ieee.signed s m 0 = n * 2 ^ k
/-- the rung of a whole number that is not 0. -/
def rungOf (a : Nat) : Nat := (1074 - (52 - a.log2)) * 2 ^ 52 + a * 2 ^ (52 - a.log2)
def wordOf (n : Int) : Nat := Ieee.double.word (decide (n < 0)) (rungOf n.natAbs)
/-- the bits of a float are those of the whole number n (of 0 there are two). -/
def IsF (b : Nat) (n : Int) : Prop := if n = 0 then b = 0 ∨ b = 2 ^ 63 else b = wordOf n
theorem signed_zero (s : Bool) (m : Nat) : Ieee.signed s m 0 = if s then -(m : Int) else m := by
  unfold Ieee.signed; cases s <;> simp
theorem signed_up (s : Bool) (m u : Nat) : Ieee.signed s m u = Ieee.signed s m 0 * 2 ^ u := by
  unfold Ieee.signed
  cases s <;> simp [Nat.shiftLeft_eq, Int.natCast_mul, Int.natCast_pow, Int.neg_mul]
theorem signed_abs (s : Bool) (m : Nat) : (Ieee.signed s m 0).natAbs = m := by
  rw [signed_zero]; cases s <;> simp
theorem pow2 (k : Nat) : 0 < 2 ^ k := Nat.two_pow_pos k
theorem pow2i (k : Nat) : (0 : Int) < 2 ^ k := Int.pow_pos (by omega)
theorem log2_shift (a k : Nat) (h : a ≠ 0) : (a * 2 ^ k).log2 = a.log2 + k := by
  have h2 : a * 2 ^ k ≠ 0 := Nat.mul_ne_zero h (Nat.ne_of_gt (pow2 k))
  apply Nat.le_antisymm
  · apply Nat.le_of_lt_succ
    rw [Nat.log2_lt h2]
    have := (Nat.log2_lt (k := a.log2 + 1) h).1 (Nat.lt_succ_self _)
    rw [show (a.log2 + k).succ = (a.log2 + 1) + k by omega, Nat.pow_add]
    exact Nat.mul_lt_mul_of_pos_right this (pow2 k)
  · rw [Nat.le_log2 h2, Nat.pow_add]
    exact Nat.mul_le_mul_right _ (Nat.log2_self_le h)
theorem cut_exact (n drop q : Nat) (hq : q ≠ 0) (h : n = q * 2 ^ drop) (w : Ieee.Toward) (s : Bool) : w.cut s n drop = q := by
  have hd : drop ≤ n.log2 + 2 := by
    rw [h, log2_shift q drop hq]; omega
  unfold Ieee.Toward.cut
  have hg : 1 <<< min drop (n.log2 + 2) = 2 ^ drop := by rw [Nat.min_eq_left hd, Nat.one_shiftLeft]
  simp only [hg]
  have h1 : n / 2 ^ drop = q := by rw [h, Nat.mul_div_cancel _ (pow2 drop)]
  have h2 : n % 2 ^ drop = 0 := by rw [h, Nat.mul_mod_left]
  rw [h1, h2]
  have := pow2 drop
  cases w <;> simp <;> omega
theorem cut_zero (w : Ieee.Toward) (s : Bool) (drop : Nat) : w.cut s 0 drop = 0 := by
  unfold Ieee.Toward.cut
  have hg : 0 < 1 <<< min drop (Nat.log2 0 + 2) := by rw [Nat.one_shiftLeft]; exact pow2 _
  have e : ∀ g : Nat, 0 < g → (g == 0) = false := fun g h => by simp; omega
  cases w <;> simp
/-- a number that is whole is written as just one word. -/
theorem write_is {d : Ieee.Datum} {n : Int} (h : IsD d n) (hn : n.natAbs < 2 ^ 53) : IsF (Ieee.double.write d) n := by
  obtain ⟨s, m, k, rfl, hv⟩ := h
  have hm : m = n.natAbs * 2 ^ k := by
    have := congrArg Int.natAbs hv
    rw [signed_abs, Int.natAbs_mul, Int.natAbs_pow] at this
    simpa using this
  unfold IsF
  show if n = 0 then Ieee.double.nearest s m (-(k : Int)) = 0 ∨ Ieee.double.nearest s m (-(k : Int)) = 2 ^ 63 else _
  by_cases h0 : n = 0
  · subst h0
    have hm0 : m = 0 := by simpa using hm
    subst hm0
    rw [if_pos rfl]
    unfold Ieee.Format.nearest Ieee.Format.word
    rw [if_pos rfl]
    cases s
    · left; rfl
    · right; decide
  · rw [if_neg h0]
    have ha : n.natAbs ≠ 0 := by omega
    have hs : s = decide (n < 0) := by
      rw [signed_zero] at hv
      have hp := pow2i k
      have hmp : (0 : Int) < m := by
        have : 0 < m := by rw [hm]; exact Nat.mul_pos (by omega) (pow2 k)
        omega
      cases s
      · have : 0 < n * 2 ^ k := by rw [← hv]; simpa using hmp
        have : 0 < n := Int.pos_of_mul_pos_left this hp
        simp; omega
      · have : n * 2 ^ k < 0 := by rw [← hv]; simp; omega
        have : n < 0 := by
          apply Int.lt_of_not_ge
          intro hge
          have := Int.mul_nonneg hge (Int.le_of_lt hp)
          omega
        simp; exact this
    subst hs
    have hL : n.natAbs.log2 < 53 := (Nat.log2_lt ha).2 hn
    have hml : m.log2 = n.natAbs.log2 + k := by rw [hm, log2_shift _ _ ha]
    have hm0 : m ≠ 0 := by rw [hm]; exact Nat.mul_ne_zero ha (Nat.ne_of_gt (pow2 k))
    show Ieee.double.nearest (decide (n < 0)) m (-(k : Int)) = wordOf n
    unfold Ieee.Format.nearest wordOf
    rw [if_neg hm0]
    have hlp : Ieee.double.leastPlace = -1074 := by decide
    have hfb : Ieee.double.fractionBits = 52 := rfl
    have hbin : Ieee.double.binade = 2 ^ 52 := rfl
    have hlast : max (-(k : Int) + (m.log2 : Int) - (Ieee.double.fractionBits : Int)) Ieee.double.leastPlace = -((52 - n.natAbs.log2 : Nat) : Int) := by
      rw [hml, hlp, hfb]; omega
    dsimp only
    rw [hlast, hlp, hbin]
    generalize ht : 52 - n.natAbs.log2 = t
    have ht2 : t ≤ 52 := by omega
    have hkept : Ieee.Toward.even.cut (decide (n < 0)) (m <<< (-(k : Int) - -(t : Int)).toNat) (-(t : Int) - -(k : Int)).toNat = n.natAbs * 2 ^ t := by
      apply cut_exact _ _ _ (Nat.mul_ne_zero ha (Nat.ne_of_gt (pow2 t)))
      rw [Nat.shiftLeft_eq, hm]
      rcases Nat.lt_or_ge k t with h1 | h1
      · have e1 : (-(k : Int) - -(t : Int)).toNat = t - k := by omega
        have e2 : (-(t : Int) - -(k : Int)).toNat = 0 := by omega
        rw [e1, e2, Nat.mul_assoc, ← Nat.pow_add, show k + (t - k) = t by omega]; simp
      · have e1 : (-(k : Int) - -(t : Int)).toNat = 0 := by omega
        have e2 : (-(t : Int) - -(k : Int)).toNat = k - t := by omega
        rw [e1, e2, Nat.pow_zero, Nat.mul_one, Nat.mul_assoc, ← Nat.pow_add, show t + (k - t) = k by omega]
    rw [hkept]
    have e3 : (-(t : Int) - -1074).toNat = 1074 - t := by omega
    have hle : n.natAbs * 2 ^ t < 2 ^ 53 := by
      have h1 := (Nat.log2_lt (k := n.natAbs.log2 + 1) ha).1 (Nat.lt_succ_self _)
      have h2 : n.natAbs * 2 ^ t < 2 ^ (n.natAbs.log2 + 1) * 2 ^ t := Nat.mul_lt_mul_of_pos_right h1 (pow2 t)
      rw [← Nat.pow_add, show n.natAbs.log2 + 1 + t = 53 by omega] at h2
      exact h2
    have hinf : Ieee.double.infRung = 2047 * 2 ^ 52 := by decide
    have hr : rungOf n.natAbs = (1074 - t) * 2 ^ 52 + n.natAbs * 2 ^ t := by unfold rungOf; rw [ht]
    have h1 : (1074 - t) * 2 ^ 52 ≤ 1074 * 2 ^ 52 := Nat.mul_le_mul_right _ (by omega)
    have h2 : (1074 - t) * 2 ^ 52 + n.natAbs * 2 ^ t ≤ 2047 * 2 ^ 52 := Nat.le_trans (Nat.add_le_add h1 (Nat.le_of_lt hle)) (by decide)
    rw [e3, hinf, hr, Nat.min_eq_left h2]
/-- the word of a whole number is read as that number. -/
theorem read_is {b : Nat} {n : Int} (h : IsF b n) (hn : n.natAbs < 2 ^ 53) : IsD (Ieee.double.read b) n := by
  have hlp : Ieee.double.leastPlace = -1074 := by decide
  have hbin : Ieee.double.binade = 2 ^ 52 := rfl
  have hsw : Ieee.double.signWeight = 2 ^ 63 := rfl
  have hinf : Ieee.double.infRung = 2047 * 2 ^ 52 := by decide
  unfold IsF at h
  by_cases h0 : n = 0
  · subst h0
    rw [if_pos rfl] at h
    rcases h with rfl | rfl
    · exact ⟨false, 0, 1074, by decide, by rw [signed_zero, Int.zero_mul]; rfl⟩
    · exact ⟨true, 0, 1074, by decide, by rw [signed_zero, Int.zero_mul]; rfl⟩
  · rw [if_neg h0] at h
    have ha : n.natAbs ≠ 0 := by omega
    have hL : n.natAbs.log2 < 53 := (Nat.log2_lt ha).2 hn
    generalize ht : 52 - n.natAbs.log2 = t at *
    have hr : rungOf n.natAbs = (1074 - t) * 2 ^ 52 + n.natAbs * 2 ^ t := by unfold rungOf; rw [ht]
    have hle : n.natAbs * 2 ^ t < 2 ^ 53 := by
      have h1 := (Nat.log2_lt (k := n.natAbs.log2 + 1) ha).1 (Nat.lt_succ_self _)
      have h2 : n.natAbs * 2 ^ t < 2 ^ (n.natAbs.log2 + 1) * 2 ^ t := Nat.mul_lt_mul_of_pos_right h1 (pow2 t)
      rw [← Nat.pow_add, show n.natAbs.log2 + 1 + t = 53 by omega] at h2
      exact h2
    have hge : 2 ^ 52 ≤ n.natAbs * 2 ^ t := by
      have h1 := Nat.log2_self_le ha
      have h2 : 2 ^ n.natAbs.log2 * 2 ^ t ≤ n.natAbs * 2 ^ t := Nat.mul_le_mul_right _ h1
      rw [← Nat.pow_add, show n.natAbs.log2 + t = 52 by omega] at h2
      exact h2
    generalize hA : n.natAbs * 2 ^ t = A at *
    refine ⟨decide (n < 0), A, t, ?_, ?_⟩
    · subst h
      unfold wordOf Ieee.Format.read Ieee.Format.word
      rw [hr, hsw, hbin, hlp, hinf]
      generalize hR : (1074 - t) * 2 ^ 52 + A = R
      have hRu : R < 2047 * 2 ^ 52 := by
        have : (1074 - t) * 2 ^ 52 ≤ 1074 * 2 ^ 52 := Nat.mul_le_mul_right _ (by omega)
        omega
      have hRl : 2 ^ 52 ≤ R := by omega
      have hneg : ((if decide (n < 0) = true then 2 ^ 63 + R else R) / 2 ^ 63 % 2 == 1) = decide (n < 0) := by
        by_cases hs : n < 0
        · simp [hs]; omega
        · simp [hs]; omega
      have hrung : (if decide (n < 0) = true then 2 ^ 63 + R else R) % 2 ^ 63 = R := by
        by_cases hs : n < 0
        · simp [hs]; omega
        · simp [hs]; omega
      simp only [hneg, hrung]
      rw [if_neg (by omega), if_pos hRu]
      have hd : R / 2 ^ 52 = 1074 - t + 1 := by omega
      have hmo : 2 ^ 52 + R % 2 ^ 52 = A := by omega
      rw [hd, hmo]
      congr 1
      omega
    · rw [signed_zero]
      have hAi : (A : Int) = (n.natAbs : Int) * 2 ^ t := by rw [← hA]; simp
      by_cases hs : n < 0
      · simp only [hs, decide_true, if_true]
        rw [hAi, show (n.natAbs : Int) = -n by omega, Int.neg_mul, Int.neg_neg]
      · simp only [hs, decide_false, Bool.false_eq_true, if_false]
        rw [hAi, show (n.natAbs : Int) = n by omega]
theorem IsD.opposite {d : Ieee.Datum} {n : Int} (h : IsD d n) : IsD d.opposite (-n) := by
  obtain ⟨s, m, k, rfl, hv⟩ := h
  refine ⟨!s, m, k, rfl, ?_⟩
  rw [Int.neg_mul, ← hv, signed_zero, signed_zero]
  cases s <;> simp
theorem IsD.sum {d e : Ieee.Datum} {n p : Int} (h : IsD d n) (h' : IsD e p) : ∃ r, d.sum e = some r ∧ IsD r (n + p) := by
  obtain ⟨s, m, k, rfl, hv⟩ := h
  obtain ⟨t, q, j, rfl, hw⟩ := h'
  refine ⟨_, rfl, ?_⟩
  have hb : min (-(k : Int)) (-(j : Int)) = -((max k j : Nat) : Int) := by omega
  generalize hM : max k j = M at hb
  have e1 : (-(k : Int) - -(M : Int)).toNat = M - k := by omega
  have e2 : (-(j : Int) - -(M : Int)).toNat = M - j := by omega
  simp only [hb, e1, e2]
  have hT : Ieee.signed s m (M - k) + Ieee.signed t q (M - j) = (n + p) * 2 ^ M := by
    rw [signed_up, signed_up t, hv, hw, Int.mul_assoc, Int.mul_assoc, ← Int.pow_add, ← Int.pow_add, show k + (M - k) = M by omega, show j + (M - j) = M by omega, ← Int.add_mul]
  rw [hT]
  refine ⟨_, _, M, rfl, ?_⟩
  rw [signed_zero]
  have hp := pow2i M
  by_cases hz : (n + p) * 2 ^ M = 0
  · rw [hz]; cases s <;> cases t <;> simp
  · rw [if_neg hz]
    by_cases hs : (n + p) * 2 ^ M < 0
    · simp only [hs, decide_true, if_true]; omega
    · simp only [hs, decide_false, Bool.false_eq_true, if_false]; omega
theorem IsF.add {a b : Nat} {n p : Int} (h : IsF a n) (h' : IsF b p) (hn : n.natAbs < 2 ^ 53) (hp : p.natAbs < 2 ^ 53) (hs : (n + p).natAbs < 2 ^ 53) :
    ∃ r, floatBits .add .f64 a b = some r ∧ IsF r (n + p) := by
  obtain ⟨d, h1, h2⟩ := (read_is h hn).sum (read_is h' hp)
  refine ⟨Ieee.double.write d, ?_, write_is h2 hs⟩
  show ((Ieee.double.read a).sum (Ieee.double.read b)).map _ = _
  rw [h1]; rfl
theorem IsF.sub {a b : Nat} {n p : Int} (h : IsF a n) (h' : IsF b p) (hn : n.natAbs < 2 ^ 53) (hp : p.natAbs < 2 ^ 53) (hs : (n - p).natAbs < 2 ^ 53) :
    ∃ r, floatBits .sub .f64 a b = some r ∧ IsF r (n - p) := by
  obtain ⟨d, h1, h2⟩ := (read_is h hn).sum (read_is h' hp).opposite
  refine ⟨Ieee.double.write d, ?_, write_is (by rw [Int.sub_eq_add_neg]; exact h2) hs⟩
  show ((Ieee.double.read a).sum (Ieee.double.read b).opposite).map _ = _
  rw [h1]; rfl
theorem signed_mul (s t : Bool) (m q : Nat) : Ieee.signed (s ^^ t) (m * q) 0 = Ieee.signed s m 0 * Ieee.signed t q 0 := by
  rw [signed_zero, signed_zero, signed_zero]
  cases s <;> cases t <;> simp [Int.neg_mul, Int.mul_neg]
theorem IsF.mul {a b : Nat} {n p : Int} (h : IsF a n) (h' : IsF b p) (hn : n.natAbs < 2 ^ 53) (hp : p.natAbs < 2 ^ 53) (hs : (n * p).natAbs < 2 ^ 53) :
    ∃ r, floatBits .mul .f64 a b = some r ∧ IsF r (n * p) := by
  obtain ⟨s, m, k, e1, hv⟩ := read_is h hn
  obtain ⟨t, q, j, e2, hw⟩ := read_is h' hp
  refine ⟨Ieee.double.write (.number (s ^^ t) (m * q) (-(k : Int) + -(j : Int))), ?_, write_is ⟨s ^^ t, m * q, k + j, ?_, ?_⟩ hs⟩
  · show ((Ieee.double.read a).product (Ieee.double.read b)).map _ = _
    rw [e1, e2]; rfl
  · congr 1; omega
  · rw [signed_mul, hv, hw, Int.pow_add]
    simp only [Int.mul_assoc, Int.mul_left_comm]
theorem read_small {b : Nat} {s : Bool} {m : Nat} {e : Int} (h : Ieee.double.read b = .number s m e) : m < 2 ^ 53 := by
  have hbin : Ieee.double.binade = 2 ^ 52 := rfl
  unfold Ieee.Format.read at h
  rw [hbin] at h
  dsimp only at h
  split at h
  · injection h with h1 h2 h3
    omega
  · split at h
    · injection h with h1 h2 h3
      have : b % Ieee.double.signWeight % 2 ^ 52 < 2 ^ 52 := Nat.mod_lt _ (by decide)
      omega
    · split at h <;> cases h
/-- a quarter of a number that is four times another one. -/
theorem IsF.quarter {a : Nat} {n : Int} (h : IsF a (4 * n)) (hn : (4 * n).natAbs < 2 ^ 53) :
    ∃ r, floatBits .quo .f64 a 4616189618054758400 = some r ∧ IsF r n := by
  obtain ⟨s, m, k, e1, hv⟩ := read_is h hn
  have e2 : Ieee.double.read 4616189618054758400 = .number false (2 ^ 52) (-50) := by decide
  have hl : (2 ^ 52 : Nat).log2 = 52 := by decide
  have hq : ∃ u, 52 ≤ u ∧ (Ieee.double.read a).quotient 54 (Ieee.double.read 4616189618054758400) = some (.number s (m * 2 ^ (u - 52 + 1)) (-((k + (u - 52 + 1) + 2 : Nat) : Int))) := by
    have hm := read_small e1
    have hlog : m.log2 ≤ 52 := by
      by_cases h0 : m = 0
      · subst h0; decide
      · have := (Nat.log2_lt (k := 53) h0).2 hm; omega
    refine ⟨106 - m.log2, by omega, ?_⟩
    rw [e1, e2]
    show (if (2 ^ 52 : Nat) = 0 then (if m = 0 then none else some (Ieee.Datum.infinity (s ^^ false))) else some (Ieee.Datum.number (s ^^ false) (2 * ((m <<< (54 + (2 ^ 52 : Nat).log2 - m.log2)) / 2 ^ 52) + ((m <<< (54 + (2 ^ 52 : Nat).log2 - m.log2)) % 2 ^ 52 != 0).toNat) (-(k : Int) - -50 - ((54 + (2 ^ 52 : Nat).log2 - m.log2 : Nat) : Int) - 1))) = _
    rw [if_neg (by decide), hl, Nat.shiftLeft_eq]
    generalize hv2 : 106 - m.log2 = v
    have hsp : m * 2 ^ v = m * 2 ^ (v - 52) * 2 ^ 52 := by rw [Nat.mul_assoc, ← Nat.pow_add, show v - 52 + 52 = v by omega]
    rw [hsp, Nat.mul_div_cancel _ (pow2 52), Nat.mul_mod_left]
    have e5 : 2 * (m * 2 ^ (v - 52)) + ((0 : Nat) != 0).toNat = m * 2 ^ (v - 52 + 1) := by
      show 2 * (m * 2 ^ (v - 52)) = _; rw [Nat.pow_succ, ← Nat.mul_assoc m, Nat.mul_comm 2]
    rw [e5, Bool.xor_false]
    congr 2
    omega
  obtain ⟨u, hu, hq⟩ := hq
  refine ⟨Ieee.double.write (.number s (m * 2 ^ (u - 52 + 1)) (-((k + (u - 52 + 1) + 2 : Nat) : Int))), ?_, write_is ⟨_, _, _, rfl, ?_⟩ (by omega)⟩
  · show ((Ieee.double.read a).quotient 54 (Ieee.double.read 4616189618054758400)).map _ = _
    rw [hq]; rfl
  · have : Ieee.signed s (m * 2 ^ (u - 52 + 1)) 0 = Ieee.signed s m 0 * 2 ^ (u - 52 + 1) := by
      rw [signed_zero, signed_zero]; cases s <;> simp [Int.neg_mul]
    generalize u - 52 + 1 = v at this ⊢
    rw [this, hv, show (k + v + 2 : Nat) = k + (v + 2) by omega, Int.pow_add 2 k, Int.pow_add 2 v]
    have e4 : (2 : Int) ^ 2 = 4 := by decide
    rw [e4]
    simp only [Int.mul_left_comm, Int.mul_comm]
theorem IsF.toInt {a : Nat} {n : Int} (h : IsF a n) (hn : n.natAbs < 2 ^ 53) (dst : IntKind) (h1 : dst.min ≤ n) (h2 : n ≤ dst.max) : floatToIntVal .f64 a dst = some n := by
  obtain ⟨s, m, k, e1, hv⟩ := read_is h hn
  have hm : m = n.natAbs * 2 ^ k := by
    have := congrArg Int.natAbs hv
    rw [signed_abs, Int.natAbs_mul, Int.natAbs_pow] at this
    simpa using this
  have hz : (FloatKind.f64.decode a).toInt .zero = some n := by
    show (Ieee.double.read a).toInt .zero = some n
    rw [e1]
    show some (Ieee.signed s (Ieee.Toward.zero.cut s (m <<< (-(k : Int)).toNat) (-(-(k : Int))).toNat) 0) = some n
    have e3 : (-(k : Int)).toNat = 0 := by omega
    have e4 : (-(-(k : Int))).toNat = k := by omega
    rw [e3, e4, Nat.shiftLeft_zero]
    have hc : Ieee.Toward.zero.cut s m k = n.natAbs := by
      by_cases h0 : n = 0
      · subst h0
        have : m = 0 := by simpa using hm
        rw [this, cut_zero]; rfl
      · exact cut_exact _ _ _ (by omega) hm _ _
    rw [hc]
    congr 1
    have hp := pow2i k
    have e5 : Ieee.signed s n.natAbs 0 * 2 ^ k = n * 2 ^ k := by
      rw [← hv, signed_zero, signed_zero, hm]; cases s <;> simp [Int.neg_mul]
    exact Int.eq_of_mul_eq_mul_right (Int.ne_of_gt hp) e5
  unfold floatToIntVal
  rw [hz]
  simp [h1, h2]
theorem IsF.ofInt (n : Int) (hn : n.natAbs < 2 ^ 53) : IsF (FloatKind.f64.nearest n) n := by
  refine write_is (d := .number (n < 0) n.natAbs 0) ⟨_, _, 0, rfl, ?_⟩ hn
  rw [signed_zero]
  by_cases hs : n < 0
  · simp only [hs, decide_true, if_true]; omega
  · simp only [hs, decide_false, Bool.false_eq_true, if_false]; omega
end Go.Proofs.YtoghpoopgkahiaaGreatDoor.FloatNum
end
