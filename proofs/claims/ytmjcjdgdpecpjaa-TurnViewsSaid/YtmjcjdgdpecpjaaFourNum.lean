/- Plain facts on complex numbers whose parts are whole: sums, products, turns by quarters. No program is named here. -/
import Derived.Test.YtmjcjdgdpecpjaaFloatNum
namespace Go.Proofs.Ytmjcjdgdpecpjaa.FloatNum
open Go Go.RowKit
set_option linter.unusedVariables false

abbrev G := Int × Int
def gadd (p q : G) : G := (p.1 + q.1, p.2 + q.2)
def gmul (p q : G) : G := (p.1 * q.1 - p.2 * q.2, p.1 * q.2 + p.2 * q.1)
def Bd (B : Nat) (p : G) : Prop := p.1.natAbs ≤ B ∧ p.2.natAbs ≤ B
/-- a complex number of 128 bits is the pair p. -/
def IsC (v : Value) (p : G) : Prop := ∃ a b, v = .complex .f64 a b ∧ IsF a p.1 ∧ IsF b p.2
/-- a turn by quarters. -/
def IsU (q : G) : Prop := q = (1, 0) ∨ q = (-1, 0) ∨ q = (0, 1) ∨ q = (0, -1)
def upow (e : Int) : Nat → G
  | 0 => (1, 0)
  | n + 1 => (-(e * (upow e n).2), e * (upow e n).1)
theorem upow_u {e : Int} (he : e = 1 ∨ e = -1) : ∀ n, IsU (upow e n)
  | 0 => .inl rfl
  | n + 1 => by
    have h := upow_u he n
    unfold upow
    rcases he with rfl | rfl <;> rcases h with h | h | h | h <;> rw [h] <;> simp [IsU]
theorem upow_add (e : Int) (m : Nat) : ∀ n, gmul (upow e m) (upow e n) = upow e (m + n)
  | 0 => by simp [upow, gmul]
  | n + 1 => by
    have h := upow_add e m n
    have h1 : (gmul (upow e m) (upow e n)).1 = (upow e (m + n)).1 := by rw [h]
    have h2 : (gmul (upow e m) (upow e n)).2 = (upow e (m + n)).2 := by rw [h]
    show _ = (-(e * (upow e (m + n)).2), e * (upow e (m + n)).1)
    rw [← h1, ← h2]
    unfold gmul
    show (_, _) = _
    simp only [upow]
    congr 1
    · simp only [Int.mul_add, Int.mul_neg, Int.neg_add, Int.mul_left_comm]; omega
    · simp only [Int.mul_sub, Int.mul_neg, Int.mul_left_comm]; omega
theorem upow_one (e : Int) : upow e 1 = (0, e) := by simp [upow]

theorem Bd.add {A B : Nat} {p q : G} (h : Bd A p) (h' : Bd B q) : Bd (A + B) (gadd p q) := by
  unfold Bd gadd at *
  omega
theorem Bd.turn {B : Nat} {p q : G} (h : Bd B p) (hq : IsU q) : Bd B (gmul p q) := by
  unfold Bd gmul at *
  rcases hq with rfl | rfl | rfl | rfl <;> simp <;> omega
theorem IsU.bd {q : G} (h : IsU q) : Bd 1 q := by rcases h with rfl | rfl | rfl | rfl <;> simp [Bd]
theorem Bd.mul {A B : Nat} {p q : G} (h : Bd A p) (h' : Bd B q) : (p.1 * q.1).natAbs ≤ A * B ∧ (p.2 * q.2).natAbs ≤ A * B ∧ (p.1 * q.2).natAbs ≤ A * B ∧ (p.2 * q.1).natAbs ≤ A * B := by
  simp only [Int.natAbs_mul]
  exact ⟨Nat.mul_le_mul h.1 h'.1, Nat.mul_le_mul h.2 h'.2, Nat.mul_le_mul h.1 h'.2, Nat.mul_le_mul h.2 h'.1⟩

theorem isF_zero : IsF 0 0 := by unfold IsF; simp
theorem isF_one : IsF 4607182418800017408 1 := by unfold IsF; decide
theorem isF_neg : IsF 13830554455654793216 (-1) := by unfold IsF; decide

theorem IsC.add {P : Program} {u v : Value} {p q : G} (h : IsC u p) (h' : IsC v q) {A B : Nat} (ha : Bd A p) (hb : Bd B q) (hs : A + B < 2 ^ 53) :
    ∃ r, (∀ (w : World) (t : TypeId), (binOp .add t u v).run P w = .ok r w) ∧ IsC r (gadd p q) := by
  obtain ⟨a, b, rfl, h1, h2⟩ := h
  obtain ⟨c, d, rfl, h3, h4⟩ := h'
  have hsum := ha.add hb
  unfold Bd gadd at *
  obtain ⟨x, e1, e2⟩ := h1.add h3 (by omega) (by omega) (by omega)
  obtain ⟨y, e3, e4⟩ := h2.add h4 (by omega) (by omega) (by omega)
  refine ⟨.complex .f64 x y, fun w t => run_complex_sum w .add (.inl rfl) t .f64 a b c d x y ?_, x, y, rfl, e2, e4⟩
  unfold cSumBits
  rw [e1, e3]; rfl

theorem IsC.mul {P : Program} {u v : Value} {p q : G} (h : IsC u p) (h' : IsC v q) {A B : Nat} (ha : Bd A p) (hb : Bd B q) (hA : A < 2 ^ 53) (hB : B < 2 ^ 53) (hs : A * B + A * B < 2 ^ 53) :
    ∃ r, (∀ (w : World) (t : TypeId), (binOp .mul t u v).run P w = .ok r w) ∧ IsC r (gmul p q) := by
  obtain ⟨a, b, rfl, h1, h2⟩ := h
  obtain ⟨c, d, rfl, h3, h4⟩ := h'
  obtain ⟨m1, m2, m3, m4⟩ := ha.mul hb
  obtain ⟨b1, b2⟩ := ha
  obtain ⟨b3, b4⟩ := hb
  have p1 : p.1.natAbs < 2 ^ 53 := Nat.lt_of_le_of_lt b1 hA
  have p2 : p.2.natAbs < 2 ^ 53 := Nat.lt_of_le_of_lt b2 hA
  have p3 : q.1.natAbs < 2 ^ 53 := Nat.lt_of_le_of_lt b3 hB
  have p4 : q.2.natAbs < 2 ^ 53 := Nat.lt_of_le_of_lt b4 hB
  generalize hAB : A * B = AB at *
  have q1 : (p.1 * q.1).natAbs < 2 ^ 53 := by omega
  have q2 : (p.2 * q.2).natAbs < 2 ^ 53 := by omega
  have q3 : (p.1 * q.2).natAbs < 2 ^ 53 := by omega
  have q4 : (p.2 * q.1).natAbs < 2 ^ 53 := by omega
  obtain ⟨ac, e1, f1⟩ := h1.mul h3 p1 p3 q1
  obtain ⟨bd, e2, f2⟩ := h2.mul h4 p2 p4 q2
  obtain ⟨ad, e3, f3⟩ := h1.mul h4 p1 p4 q3
  obtain ⟨bc, e4, f4⟩ := h2.mul h3 p2 p3 q4
  obtain ⟨x, e5, f5⟩ := f1.sub f2 q1 q2 (by omega)
  obtain ⟨y, e6, f6⟩ := f3.add f4 q3 q4 (by omega)
  refine ⟨.complex .f64 x y, fun w t => run_complex_mul w t a b c d x y ?_, x, y, rfl, f5, f6⟩
  unfold cMulBits
  rw [e1, e2, e3, e4]
  show (floatBits .sub .f64 ac bd).bind _ = _
  rw [e5]
  show (floatBits .add .f64 ad bc).bind _ = _
  rw [e6]; rfl

/-- the sum of the first m numbers, number j turned j times by k quarters. -/
def gpart (p : Nat → G) (e : Int) (k : Nat) : Nat → G
  | 0 => (0, 0)
  | m + 1 => gadd (gpart p e k m) (gmul (p m) (upow e (k * m)))
theorem gpart_bd {p : Nat → G} {e : Int} {B : Nat} (he : e = 1 ∨ e = -1) (hp : ∀ i, Bd B (p i)) (k : Nat) : ∀ m, Bd (m * B) (gpart p e k m)
  | 0 => by simp [gpart, Bd]
  | m + 1 => by
    rw [Nat.succ_mul]
    exact (gpart_bd he hp k m).add ((hp m).turn (upow_u he _))

/-- the sums as they stand: those before k are whole, that at k has m numbers, the others are 0. -/
def SumsR (p : Nat → G) (e : Int) (k m : Nat) (S : Nat → Value) : Prop := ∀ i, i < 4 → IsC (S i) (if i < k then gpart p e i 4 else if i = k then gpart p e k m else (0, 0))
theorem SumsR.start (p : Nat → G) (e : Int) : SumsR p e 0 0 (fun _ => .complex .f64 0 0) := fun i hi => by
  have : (if i < 0 then gpart p e i 4 else if i = 0 then gpart p e 0 0 else (0, 0)) = (0, 0) := by
    rw [if_neg (by omega)]; split <;> rfl
  rw [this]; exact ⟨0, 0, rfl, isF_zero, isF_zero⟩
theorem SumsR.next {p : Nat → G} {e : Int} {k : Nat} {S : Nat → Value} (h : SumsR p e k 4 S) : SumsR p e (k + 1) 0 S := fun i hi => by
  have := h i hi
  by_cases h1 : i < k
  · rw [if_pos h1] at this; rw [if_pos (by omega)]; exact this
  · by_cases h2 : i = k
    · subst h2; rw [if_neg h1, if_pos rfl] at this; rw [if_pos (by omega)]; exact this
    · rw [if_neg h1, if_neg h2] at this; rw [if_neg (by omega)]
      by_cases h3 : i = k + 1
      · rw [if_pos h3]; exact this
      · rw [if_neg h3]; exact this
theorem SumsR.at {p : Nat → G} {e : Int} {k m : Nat} {S : Nat → Value} (h : SumsR p e k m S) (hk : k < 4) : IsC (S k) (gpart p e k m) := by
  have := h k hk
  rw [if_neg (by omega), if_pos rfl] at this; exact this
theorem SumsR.step {p : Nat → G} {e : Int} {k m : Nat} {S : Nat → Value} (h : SumsR p e k m S) {v : Value} (hv : IsC v (gpart p e k (m + 1))) : SumsR p e k (m + 1) (fun i => if i = k then v else S i) := fun i hi => by
  by_cases h2 : i = k
  · subst h2; simp only [if_pos, if_neg (Nat.lt_irrefl i)]; exact hv
  · have := h i hi
    rw [if_neg h2] at this
    simp only [if_neg h2]
    exact this
theorem SumsR.all {p : Nat → G} {e : Int} {S : Nat → Value} (h : SumsR p e 4 0 S) {i : Nat} (hi : i < 4) : IsC (S i) (gpart p e i 4) := by
  have := h i hi
  rw [if_pos hi] at this; exact this
/-- an array that is filled from the left. -/
def FillR (p : Nat → G) (k : Nat) (X : Nat → Value) : Prop := ∀ i, i < 4 → IsC (X i) (if i < k then p i else (0, 0))
theorem FillR.start (p : Nat → G) : FillR p 0 (fun _ => .complex .f64 0 0) := fun i hi => by
  rw [if_neg (by omega)]; exact ⟨0, 0, rfl, isF_zero, isF_zero⟩
theorem FillR.step {p : Nat → G} {k : Nat} {X : Nat → Value} (h : FillR p k X) {v : Value} (hv : IsC v (p k)) : FillR p (k + 1) (fun i => if i = k then v else X i) := fun i hi => by
  by_cases e : i = k
  · subst e; simp only [if_true]; rw [if_pos (by omega)]; exact hv
  · simp only [if_neg e]
    have := h i hi
    by_cases h1 : i < k
    · rw [if_pos h1] at this; rw [if_pos (by omega)]; exact this
    · rw [if_neg h1] at this; rw [if_neg (by omega)]; exact this
theorem FillR.all {p : Nat → G} {X : Nat → Value} (h : FillR p 4 X) {i : Nat} (hi : i < 4) : IsC (X i) (p i) := by
  have := h i hi
  rw [if_pos hi] at this; exact this
/-- a row of four whole numbers. -/
def l4 (a b c d : Int) : Nat → Int
  | 0 => a
  | 1 => b
  | 2 => c
  | _ => d
def lp (a b c d : Int) (i : Nat) : G := (l4 a b c d i, 0)
def In16 (a : Int) : Prop := -32768 ≤ a ∧ a ≤ 32767
theorem l4_in {a b c d : Int} (ha : In16 a) (hb : In16 b) (hc : In16 c) (hd : In16 d) : ∀ i, In16 (l4 a b c d i)
  | 0 => ha
  | 1 => hb
  | 2 => hc
  | _ + 3 => hd
theorem lp_bd {a b c d : Int} (ha : In16 a) (hb : In16 b) (hc : In16 c) (hd : In16 d) (i : Nat) : Bd 32768 (lp a b c d i) := by
  have := l4_in ha hb hc hd i
  unfold In16 at this
  unfold lp Bd
  exact ⟨by show (l4 a b c d i).natAbs ≤ 32768; omega, by show (0 : Int).natAbs ≤ 32768; decide⟩
end Go.Proofs.Ytmjcjdgdpecpjaa.FloatNum
