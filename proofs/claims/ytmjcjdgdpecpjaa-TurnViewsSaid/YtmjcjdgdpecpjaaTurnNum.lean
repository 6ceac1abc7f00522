/- Numbers that are turned by quarters, and turned over: plain facts; no program is named here. -/
import Derived.Test.YtmjcjdgdpecpjaaTurnOver
namespace Go.Proofs.Ytmjcjdgdpecpjaa.CTurn
set_option linter.unusedVariables false

/-- the place of (i, j, k) among b columns of d numbers. -/
theorem place_of {b d i j k : Nat} (hj : j < b) (hk : k < d) : ((i * b + j) * d + k) / d / b = i ∧ ((i * b + j) * d + k) / d % b = j ∧ ((i * b + j) * d + k) % d = k := by
  have h1 : ((i * b + j) * d + k) / d = i * b + j := by rw [Nat.mul_comm, Nat.mul_add_div (by omega), Nat.div_eq_of_lt hk]; rfl
  have h2 : ((i * b + j) * d + k) % d = k := by rw [Nat.mul_comm, Nat.mul_add_mod, Nat.mod_eq_of_lt hk]
  have h3 : (i * b + j) / b = i := by rw [Nat.mul_comm, Nat.mul_add_div (by omega), Nat.div_eq_of_lt hj]; rfl
  have h4 : (i * b + j) % b = j := by rw [Nat.mul_comm, Nat.mul_add_mod, Nat.mod_eq_of_lt hj]
  rw [h1]; exact ⟨h3, h4, h2⟩
theorem place_back {a b d t : Nat} (ht : t < a * b * d) : t / d / b < a ∧ t / d % b < b ∧ t % d < d ∧ t = (t / d / b * b + t / d % b) * d + t % d := by
  have hd : 0 < d := by rcases Nat.eq_zero_or_pos d with h | h; · subst h; simp at ht
                        · exact h
  have hb : 0 < b := by rcases Nat.eq_zero_or_pos b with h | h; · subst h; simp at ht
                        · exact h
  have h1 : t / d < a * b := Nat.div_lt_of_lt_mul (by rw [Nat.mul_comm]; exact ht)
  have h2 : t / d / b < a := Nat.div_lt_of_lt_mul (by rw [Nat.mul_comm]; exact h1)
  refine ⟨h2, Nat.mod_lt _ hb, Nat.mod_lt _ hd, ?_⟩
  have e1 : t / d / b * b + t / d % b = t / d := by rw [Nat.mul_comm]; exact Nat.div_add_mod _ _
  rw [e1, Nat.mul_comm]
  exact (Nat.div_add_mod _ _).symm
theorem grid_ext {a b d : Nat} {xs ys : List Int} (hx : xs.length = a * b * d) (hy : ys.length = a * b * d) (h : ∀ i j k, i < a → j < b → k < d → xs.getD ((i * b + j) * d + k) 0 = ys.getD ((i * b + j) * d + k) 0) : xs = ys := by
  refine List.ext_getElem (hx.trans hy.symm) fun t h1 h2 => ?_
  obtain ⟨p1, p2, p3, p4⟩ := place_back (a := a) (b := b) (d := d) (t := t) (by omega)
  have := h _ _ _ p1 p2 p3
  rw [← p4] at this
  simpa [List.getD_eq_getElem?_getD, List.getElem?_eq_getElem h1, List.getElem?_eq_getElem h2] using this
theorem rowL_get (F : Nat → Int) {m q : Nat} (h : q < m) : (rowL F m).getD q 0 = F q := by simp [rowL, List.getD_eq_getElem?_getD, h]
/-- a rows of b columns of d numbers, turned to the left by a quarter. -/
def onceF (zs : List Int) (a b d t : Nat) : Int := zs.getD ((t / d % a * b + (b - 1 - t / d / a)) * d + t % d) 0
def onceL (zs : List Int) (a b d : Nat) : List Int := rowL (onceF zs a b d) (b * a * d)
def overF (zs : List Int) (a b d t : Nat) : Int := zs.getD ((t / d / b * b + (b - 1 - t / d % b)) * d + t % d) 0
def overL (zs : List Int) (a b d : Nat) : List Int := rowL (overF zs a b d) (a * b * d)
theorem onceL_len (zs : List Int) (a b d : Nat) : (onceL zs a b d).length = b * a * d := rowL_len _ _
theorem overL_len (zs : List Int) (a b d : Nat) : (overL zs a b d).length = a * b * d := rowL_len _ _
theorem onceL_at (zs : List Int) {a b d i j k : Nat} (hi : i < b) (hj : j < a) (hk : k < d) : (onceL zs a b d).getD ((i * a + j) * d + k) 0 = zs.getD ((j * b + (b - 1 - i)) * d + k) 0 := by
  unfold onceL
  rw [rowL_get _ (at_lt hi hj hk)]
  obtain ⟨h1, h2, h3⟩ := place_of (i := i) hj hk
  unfold onceF
  rw [h1, h2, h3]
theorem overL_at (zs : List Int) {a b d i j k : Nat} (hi : i < a) (hj : j < b) (hk : k < d) : (overL zs a b d).getD ((i * b + j) * d + k) 0 = zs.getD ((i * b + (b - 1 - j)) * d + k) 0 := by
  unfold overL
  rw [rowL_get _ (at_lt hi hj hk)]
  obtain ⟨h1, h2, h3⟩ := place_of (i := i) hj hk
  unfold overF
  rw [h1, h2, h3]
theorem over_twice {zs : List Int} {a b d : Nat} (hz : zs.length = a * b * d) : overL (overL zs a b d) a b d = zs := by
  refine grid_ext (overL_len _ _ _ _) hz fun i j k hi hj hk => ?_
  rw [overL_at _ hi hj hk, overL_at _ hi (by omega) hk]
  congr 4; omega
theorem once_four {zs : List Int} {a b d : Nat} (hz : zs.length = a * b * d) : onceL (onceL (onceL (onceL zs a b d) b a d) a b d) b a d = zs := by
  refine grid_ext (onceL_len _ _ _ _) hz fun i j k hi hj hk => ?_
  rw [onceL_at _ hi hj hk, onceL_at _ hj (by omega) hk, onceL_at _ (by omega) (by omega) hk, onceL_at _ (by omega) (by omega) hk]
  have e1 : a - 1 - (a - 1 - i) = i := by omega
  have e2 : b - 1 - (b - 1 - j) = j := by omega
  first | rw [e1, e2] | (congr 2; omega)
/-- rows, columns, numbers: turned r times. -/
def itT (d : Nat) : Nat → Nat × Nat × List Int → Nat × Nat × List Int
  | 0, t => t
  | r + 1, t => let u := itT d r t; (u.2.1, u.1, onceL u.2.2 u.1 u.2.1 d)
theorem itT_succ (d r : Nat) (t : Nat × Nat × List Int) : itT d (r + 1) t = ((itT d r t).2.1, (itT d r t).1, onceL (itT d r t).2.2 (itT d r t).1 (itT d r t).2.1 d) := rfl
theorem itT_add (d r s : Nat) (t : Nat × Nat × List Int) : itT d (s + r) t = itT d s (itT d r t) := by
  induction s with
  | zero => rw [Nat.zero_add]; rfl
  | succ s ih => rw [show s + 1 + r = (s + r) + 1 by omega, itT_succ, ih]; rfl
/-- as many numbers as rows, columns and channels tell. -/
def Fits (d n : Nat) (t : Nat × Nat × List Int) : Prop := t.1 * t.2.1 * d = n ∧ t.2.2.length = n
theorem itT_fits {d n r : Nat} {t : Nat × Nat × List Int} (h : Fits d n t) : Fits d n (itT d r t) := by
  induction r with
  | zero => exact h
  | succ r ih =>
    obtain ⟨h1, h2⟩ := ih
    rw [itT_succ]
    have e : (itT d r t).2.1 * (itT d r t).1 * d = n := by rw [Nat.mul_comm (itT d r t).2.1]; exact h1
    exact ⟨e, (onceL_len _ _ _ _).trans e⟩
theorem itT_dims {d r : Nat} {t : Nat × Nat × List Int} : ((itT d r t).1 = t.1 ∧ (itT d r t).2.1 = t.2.1) ∨ ((itT d r t).1 = t.2.1 ∧ (itT d r t).2.1 = t.1) := by
  induction r with
  | zero => exact .inl ⟨rfl, rfl⟩
  | succ r ih =>
    rw [itT_succ]
    rcases ih with ⟨h1, h2⟩ | ⟨h1, h2⟩
    · exact .inr ⟨h2, h1⟩
    · exact .inl ⟨h2, h1⟩
theorem itT_four {d n : Nat} {t : Nat × Nat × List Int} (h : Fits d n t) : itT d 4 t = t := by
  obtain ⟨a, b, zs⟩ := t
  obtain ⟨h1, h2⟩ := h
  have h2 : zs.length = a * b * d := h2.trans h1.symm
  show (a, b, onceL (onceL (onceL (onceL zs a b d) b a d) a b d) b a d) = (a, b, zs)
  rw [once_four h2]
theorem itT_mod {d n r : Nat} {t : Nat × Nat × List Int} (h : Fits d n t) : itT d (r % 4) t = itT d r t := by
  have key : ∀ q, itT d (r % 4 + 4 * q) t = itT d (r % 4) t := by
    intro q
    induction q with
    | zero => rfl
    | succ q ih => rw [show r % 4 + 4 * (q + 1) = (r % 4 + 4 * q) + 4 by omega, itT_add, itT_four h, ih]
  have := key (r / 4)
  rw [show r % 4 + 4 * (r / 4) = r by omega] at this
  exact this.symm
/-- how many quarters a number asks for. -/
def turnsN (n : Int) : Nat := (n % 4).toNat
theorem turnsN_go (n : Int) : (n.tmod 4 + 4).tmod 4 = (turnsN n : Int) ∧ -3 ≤ n.tmod 4 ∧ n.tmod 4 ≤ 3 ∧ turnsN n ≤ 3 := by
  have h := Int.tmod_add_mul_tdiv n 4
  have h1 : -4 < n.tmod 4 := by have := Int.lt_tmod_of_pos n (show (0 : Int) < 4 by decide); omega
  have h2 : n.tmod 4 < 4 := Int.tmod_lt_of_pos n (by decide)
  rw [Int.tmod_eq_emod_of_nonneg (show 0 ≤ n.tmod 4 + 4 by omega)]
  unfold turnsN
  omega
theorem turnsN_add {a b : Int} : (turnsN a + turnsN b) % 4 = turnsN (a + b) := by unfold turnsN; omega
theorem turnsN_four {a : Int} : turnsN (4 * a) = 0 := by unfold turnsN; omega
theorem turns_twice {d n : Nat} {t : Nat × Nat × List Int} (h : Fits d n t) (a b : Int) : itT d (turnsN b) (itT d (turnsN a) t) = itT d (turnsN (a + b)) t := by
  rw [← itT_add, ← turnsN_add, Nat.add_comm (turnsN a), itT_mod h]
theorem turns_back {d n : Nat} {t : Nat × Nat × List Int} (h : Fits d n t) (a : Int) : itT d (turnsN (-a)) (itT d (turnsN a) t) = t := by
  rw [turns_twice h, show a + -a = 0 by omega]; rfl
end Go.Proofs.Ytmjcjdgdpecpjaa.CTurn
