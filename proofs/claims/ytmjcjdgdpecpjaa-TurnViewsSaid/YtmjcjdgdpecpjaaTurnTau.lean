/- Layer 23 (turn): where a place goes by quarters, and turned over; a list that is filled group by group: numbers only. -/
import Derived.Test.YtmjcjdgdpecpjaaTurnPlace
import Derived.Laws.CopyOwn
namespace Go.Proofs.Ytmjcjdgdpecpjaa.CTurn
open Go Go.RowKit
open Plain CSat CShape CTensor FloatNum
set_option linter.unusedVariables false

/-- is group g written by the first k places? -/
def hitB (τ : Nat → Nat) (k g : Nat) : Bool := (List.range k).any (fun p => τ p == g)
theorem hit_iff (τ : Nat → Nat) (k g : Nat) : hitB τ k g = true ↔ ∃ p, p < k ∧ τ p = g := by
  unfold hitB
  rw [List.any_eq_true]
  constructor
  · rintro ⟨p, hp, he⟩
    exact ⟨p, List.mem_range.1 hp, by simpa using he⟩
  · rintro ⟨p, hp, he⟩
    exact ⟨p, List.mem_range.2 hp, by simpa using he⟩
/-- the list behind k places. -/
def mvF (τ : Nat → Nat) (F : Nat → Int) (d k j : Nat) : Int := if hitB τ k (j / d) then F j else 0
theorem mv_zero (τ : Nat → Nat) (F : Nat → Int) (d m : Nat) : I8s (rowL (mvF τ F d 0) m) = List.replicate m (.int .i8 0) := by
  refine List.ext_getElem (by simp [I8s, rowL]) fun i h1 h2 => ?_
  simp [I8s, rowL, mvF, hitB]
theorem mv_all (τ : Nat → Nat) (F : Nat → Int) {d m N : Nat} (hm : N * d = m) (hs : ∀ g, g < N → ∃ p, p < N ∧ τ p = g) : rowL (mvF τ F d N) m = rowL F m := by
  refine List.ext_getElem (by simp [rowL]) fun i h1 h2 => ?_
  have hi : i < m := by simpa [rowL] using h1
  have hg : i / d < N := Nat.div_lt_of_lt_mul (by rw [Nat.mul_comm, hm]; exact hi)
  have := (hit_iff τ N (i / d)).2 (hs _ hg)
  simp [rowL, mvF, this]
theorem i8_get (F : Nat → Int) {m i : Nat} (h : i < m) : (I8s (rowL F m))[i]? = some (.int .i8 (F i)) := by simp [I8s, rowL, h]
theorem i8_len (F : Nat → Int) (m : Nat) : (I8s (rowL F m)).length = m := by simp [I8s, rowL]
theorem mv_set (τ : Nat → Nat) (F : Nat → Int) {d m k q : Nat} (hd : 0 < d) (hq : τ k = q) (hm : q * d + d ≤ m) (cs : List Value) (hc : cs = I8s (rowL (fun c => F (q * d + c)) d)) :
    splice (I8s (rowL (mvF τ F d k) m)) (q * d) cs = I8s (rowL (mvF τ F d (k + 1)) m) := by
  have hl : cs.length = d := by rw [hc]; exact i8_len _ _
  have hL := i8_len (mvF τ F d k) m
  apply List.ext_getElem?
  intro i
  have hstep : ∀ g, hitB τ (k + 1) g = (hitB τ k g || (q == g)) := fun g => by
    unfold hitB
    rw [List.range_succ, List.any_append, ← hq]
    simp
  unfold splice
  by_cases him : i < m
  · rw [i8_get _ him]
    by_cases h1 : i < q * d
    · rw [List.getElem?_append_left (by rw [List.length_take]; omega), List.getElem?_take, if_pos h1, i8_get _ him]
      have hne : (q == i / d) = false := by
        have : i / d < q := Nat.div_lt_of_lt_mul (by rw [Nat.mul_comm]; exact h1)
        simp; omega
      unfold mvF
      rw [hstep, hne, Bool.or_false]
    · by_cases h2 : i < q * d + d
      · rw [List.getElem?_append_right (by rw [List.length_take]; omega), List.length_take, hL, Nat.min_eq_left (by omega), List.getElem?_append_left (by omega), hc, i8_get _ (by omega)]
        have he : i / d = q := by
          obtain ⟨r, rfl⟩ : ∃ r, i = q * d + r := ⟨i - q * d, by omega⟩
          rw [Nat.mul_comm, Nat.mul_add_div hd, Nat.div_eq_of_lt (by omega)]; rfl
        unfold mvF
        rw [hstep, he]
        simp
        congr 1; omega
      · rw [List.getElem?_append_right (by rw [List.length_take]; omega), List.length_take, hL, Nat.min_eq_left (by omega), List.getElem?_append_right (by omega), hl, List.getElem?_drop]
        rw [show q * d + d + (i - q * d - d) = i by omega, i8_get _ him]
        have hne : (q == i / d) = false := by
          have : q + 1 ≤ i / d := (Nat.le_div_iff_mul_le hd).2 (by rw [Nat.add_mul, Nat.one_mul]; omega)
          simp; omega
        unfold mvF
        rw [hstep, hne, Bool.or_false]
  · rw [List.getElem?_eq_none (by simp only [List.length_append, List.length_take, List.length_drop, hL, hl]; omega), List.getElem?_eq_none (by rw [i8_len]; omega)]
/-- a place (i, j) of b columns as one number. -/
def tauN (tH tW : Nat → Nat → Nat) (b B p : Nat) : Nat := tH (p / b) (p % b) * B + tW (p / b) (p % b)
theorem tauN_at (tH tW : Nat → Nat → Nat) {b B i j : Nat} (hj : j < b) : tauN tH tW b B (i * b + j) = tH i j * B + tW i j := by
  have h3 : (i * b + j) / b = i := by rw [Nat.mul_comm, Nat.mul_add_div (by omega), Nat.div_eq_of_lt hj]; rfl
  have h4 : (i * b + j) % b = j := by rw [Nat.mul_comm, Nat.mul_add_mod, Nat.mod_eq_of_lt hj]
  unfold tauN
  rw [h3, h4]
theorem tauN_onto {tH tW : Nat → Nat → Nat} {a b A B : Nat} (hN : a * b = A * B) (hs : ∀ x y, x < A → y < B → ∃ i j, i < a ∧ j < b ∧ tH i j = x ∧ tW i j = y) : ∀ g, g < a * b → ∃ p, p < a * b ∧ tauN tH tW b B p = g := fun g hg => by
  have hB : 0 < B := by rcases Nat.eq_zero_or_pos B with h | h; · subst h; omega
                        · exact h
  obtain ⟨i, j, hi, hj, h1, h2⟩ := hs (g / B) (g % B) (Nat.div_lt_of_lt_mul (by rw [Nat.mul_comm, ← hN]; exact hg)) (Nat.mod_lt _ hB)
  refine ⟨i * b + j, ?_, ?_⟩
  · have : (i + 1) * b ≤ a * b := Nat.mul_le_mul_right _ hi
    rw [Nat.add_mul, Nat.one_mul] at this
    omega
  · rw [tauN_at _ _ hj, h1, h2, Nat.mul_comm]
    exact Nat.div_add_mod _ _
/-- the rows and columns behind r quarters; the place where (i, j) has gone. -/
def rA (a b : Nat) : Nat → Nat
  | 0 => a
  | r + 1 => rA b a r
def rB (a b r : Nat) : Nat := rA b a r
theorem rA_succ (a b r : Nat) : rA a b (r + 1) = rB a b r ∧ rB a b (r + 1) = rA a b r := ⟨rfl, rfl⟩
def rP (a b : Nat) : Nat → Nat → Nat → Nat × Nat
  | 0, i, j => (i, j)
  | r + 1, i, j => (rB a b r - 1 - (rP a b r i j).2, (rP a b r i j).1)
theorem rP_in {a b r i j : Nat} (hi : i < a) (hj : j < b) : (rP a b r i j).1 < rA a b r ∧ (rP a b r i j).2 < rB a b r := by
  induction r with
  | zero => exact ⟨hi, hj⟩
  | succ r ih =>
    rw [(rA_succ a b r).1, (rA_succ a b r).2]
    simp only [rP]
    omega
theorem rP_onto {a b r x y : Nat} (hx : x < rA a b r) (hy : y < rB a b r) : ∃ i j, i < a ∧ j < b ∧ rP a b r i j = (x, y) := by
  induction r generalizing x y with
  | zero => exact ⟨x, y, hx, hy, rfl⟩
  | succ r ih =>
    rw [(rA_succ a b r).1] at hx
    rw [(rA_succ a b r).2] at hy
    obtain ⟨i, j, hi, hj, h⟩ := ih (x := y) (y := rB a b r - 1 - x) hy (by omega)
    refine ⟨i, j, hi, hj, ?_⟩
    simp only [rP, h]
    congr 1
    omega
theorem gmul_one (p : G) : gmul (upow 1 0) p = p := by simp [gmul, upow]
theorem gmul_i (r : Nat) (p : G) : gmul (upow 1 (r + 1)) p = (-(gmul (upow 1 r) p).2, (gmul (upow 1 r) p).1) := by
  rw [← upow_add 1 r 1, upow_one]
  unfold gmul
  simp only
  generalize upow 1 r = u
  obtain ⟨u1, u2⟩ := u
  obtain ⟨x, y⟩ := p
  simp [Int.neg_mul]
  constructor <;> omega
theorem rP_place {a b r i j : Nat} (hi : i < a) (hj : j < b) : gmul (upow 1 r) (plC a b i j) = plC (rA a b r) (rB a b r) (rP a b r i j).1 (rP a b r i j).2 := by
  induction r with
  | zero => exact gmul_one _
  | succ r ih =>
    obtain ⟨h1, h2⟩ := rP_in (r := r) hi hj
    rw [gmul_i, ih, (rA_succ a b r).1, (rA_succ a b r).2]
    simp only [rP]
    generalize rA a b r = A at *
    generalize rB a b r = B at *
    generalize (rP a b r i j).1 = x at *
    generalize (rP a b r i j).2 = y at *
    unfold plC
    simp only
    refine Prod.ext ?_ ?_ <;> simp only <;> omega
theorem itT_dimsR (d r a b : Nat) (zs : List Int) : (itT d r (a, b, zs)).1 = rA a b r ∧ (itT d r (a, b, zs)).2.1 = rB a b r := by
  induction r with
  | zero => exact ⟨rfl, rfl⟩
  | succ r ih => rw [itT_succ, (rA_succ a b r).1, (rA_succ a b r).2]; exact ⟨ih.2, ih.1⟩
theorem itT_at {a b d r i j k : Nat} {zs : List Int} (hi : i < a) (hj : j < b) (hk : k < d) : (itT d r (a, b, zs)).2.2.getD (((rP a b r i j).1 * rB a b r + (rP a b r i j).2) * d + k) 0 = zs.getD ((i * b + j) * d + k) 0 := by
  induction r with
  | zero => rfl
  | succ r ih =>
    obtain ⟨h1, h2⟩ := rP_in (r := r) hi hj
    obtain ⟨e1, e2⟩ := itT_dimsR d r a b zs
    rw [itT_succ, (rA_succ a b r).2, e1, e2]
    simp only [rP]
    rw [onceL_at _ (by omega) h1 hk, show rB a b r - 1 - (rB a b r - 1 - (rP a b r i j).2) = (rP a b r i j).2 by omega]
    exact ih
theorem over_place {a b i j : Nat} (hi : i < a) (hj : j < b) : ((-(plC a b i j).1, (plC a b i j).2) : G) = plC a b i ((b - 1 - j : Nat) : Int) := by
  unfold plC
  simp only
  refine Prod.ext ?_ ?_ <;> simp only <;> omega
theorem plC_bd {H W h w : Int} (hH1 : 1 ≤ H) (hH2 : H ≤ 16) (hW1 : 1 ≤ W) (hW2 : W ≤ 16) (h1 : 0 ≤ h) (h2 : h < H) (w1 : 0 ≤ w) (w2 : w < W) : Bd 16 (plC H W h w) ∧ Sm (plC H W h w).1 := by
  unfold plC Bd Sm
  simp only
  omega
end Go.Proofs.Ytmjcjdgdpecpjaa.CTurn
