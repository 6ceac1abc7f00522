/- Layer 12 (gemm): rows that are parted, and their products. -/
import Derived.Test.YtbkbflhjfmkcoaaGemmKnown
namespace Go.Proofs.Ytbkbflhjfmkcoaa.CGemm
open Go Go.ChangeShapes Go.WideShapes Go.ChangeAt Go.RowKit
open Plain
set_option linter.unusedVariables false

def I16v (zs : List Int) : List Value := zs.map (.int .i16)
/-- of i rows of m numbers, those from 'off' on, d of each, one behind the other. -/
def Parts (xs : List Int) (m off d i : Nat) (P : List Int) : Prop := P.length = i * d ∧ ∀ q t, q < i → t < d → P.getD (q * d + t) 0 = xs.getD (q * m + off + t) 0
theorem Parts.zero (xs : List Int) (m off d : Nat) : Parts xs m off d 0 [] := ⟨by simp, fun q t h => absurd h (Nat.not_lt_zero _)⟩
theorem Parts.succ {xs P : List Int} {m off d i p : Nat} (h : Parts xs m off d i P) (hp : i * m + off = p) (hl : p + d ≤ xs.length) : Parts xs m off d (i + 1) (P ++ (xs.drop p).take d) := by
  obtain ⟨h1, h2⟩ := h
  refine ⟨by rw [List.length_append, cut_len rfl hl, h1, Nat.add_mul, Nat.one_mul], fun q t hq ht => ?_⟩
  rw [List.getD_eq_getElem?_getD]
  by_cases e : q = i
  · subst e
    rw [List.getElem?_append_right (by omega), show q * d + t - P.length = t by omega, ← List.getD_eq_getElem?_getD, cut_getD _ ht, hp]
  · have hqi : q < i := by omega
    rw [List.getElem?_append_left (by rw [h1]; exact place_lt hqi ht), ← List.getD_eq_getElem?_getD]
    exact h2 q t hqi ht
theorem parts_all {xs P : List Int} {m off d i j : Nat} (h : Parts xs m off d i P) (hj : j < i * d) : P.getD j 0 = xs.getD (j / d * m + off + j % d) 0 := by
  have hd : 0 < d := by
    rcases Nat.eq_zero_or_pos d with h0 | h0
    · subst h0; simp at hj
    · exact h0
  have := h.2 (j / d) (j % d) (Nat.div_lt_of_lt_mul (by rw [Nat.mul_comm]; exact hj)) (Nat.mod_lt _ hd)
  rwa [place_back] at this
theorem parts_I16 {xs P : List Int} {m off d i : Nat} (h : Parts xs m off d i P) (hx : I16b xs) : I16b P := fun j => by
  by_cases hj : j < i * d
  · rw [parts_all h hj]; exact hx _
  · rw [getD_none _ (by rw [h.1]; omega)]; omega
theorem parts_I8 {xs P : List Int} {m off d i : Nat} (h : Parts xs m off d i P) (hx : I8b xs) : I8b P := fun j => by
  by_cases hj : j < i * d
  · rw [parts_all h hj]; exact hx _
  · rw [getD_none _ (by rw [h.1]; omega)]; omega
/-- a product over a part. -/
theorem parts_mul {xs ys P Q : List Int} {m off d n k i : Nat} (hP : Parts xs m off d n P) (hQ : Parts ys m off d k Q) (hi : i < n * k) :
    mulF P Q d k i = IntKind.i32.wrap (psum (fun t => xs.getD (i / k * m + (off + t)) 0 * ys.getD (i % k * m + (off + t)) 0) d) := by
  have hk : 0 < k := by
    rcases Nat.eq_zero_or_pos k with h0 | h0
    · subst h0; simp at hi
    · exact h0
  have h1 : i / k < n := Nat.div_lt_of_lt_mul (by rw [Nat.mul_comm]; exact hi)
  have h2 := Nat.mod_lt i hk
  unfold mulF
  congr 1
  refine psum_congr fun t ht => ?_
  show P.getD _ 0 * Q.getD _ 0 = _
  rw [hP.2 _ _ h1 ht, hQ.2 _ _ h2 ht, Nat.add_assoc, Nat.add_assoc]
/-- the whole product is the sum of both parts'. -/
theorem parts_sum {xs ys P1 P2 Q1 Q2 : List Int} {m at_ n k i : Nat} (ha : at_ ≤ m) (hP1 : Parts xs m 0 at_ n P1) (hP2 : Parts xs m at_ (m - at_) n P2) (hQ1 : Parts ys m 0 at_ k Q1) (hQ2 : Parts ys m at_ (m - at_) k Q2) (hi : i < n * k) :
    IntKind.i32.wrap (mulF P1 Q1 at_ k i + mulF P2 Q2 (m - at_) k i) = mulF xs ys m k i := by
  rw [parts_mul hP1 hQ1 hi, parts_mul hP2 hQ2 hi, wrap32_add, wrap32_add']
  unfold mulF
  congr 1
  conv => rhs; rw [show m = at_ + (m - at_) by omega, psum_split]
  rw [show at_ + (m - at_) = m by omega]
  congr 1
  exact psum_congr fun t _ => by rw [Nat.zero_add]
theorem mulF_zero (P Q : List Int) (k i : Nat) : mulF P Q 0 k i = 0 := by simp [mulF, psum, IntKind.wrap_i32]
theorem take_getD (xs : List Int) {p k : Nat} (h : k < p) : (xs.take p).getD k 0 = xs.getD k 0 := by
  rw [List.getD_eq_getElem?_getD, List.getElem?_take, if_pos h, ← List.getD_eq_getElem?_getD]
theorem mulF_take {xs ys : List Int} {m n k i : Nat} (hi : i < n * k) : mulF (xs.take (n * m)) (ys.take (k * m)) m k i = mulF xs ys m k i := by
  have hk : 0 < k := by
    rcases Nat.eq_zero_or_pos k with h0 | h0
    · subst h0; simp at hi
    · exact h0
  have h1 : i / k < n := Nat.div_lt_of_lt_mul (by rw [Nat.mul_comm]; exact hi)
  have h2 := Nat.mod_lt i hk
  unfold mulF
  congr 1
  refine psum_congr fun t ht => ?_
  have e1 := place_lt (cols := m) h1 ht
  have e2 := place_lt (cols := m) h2 ht
  show (xs.take _).getD _ 0 * (ys.take _).getD _ 0 = _
  rw [take_getD _ e1, take_getD _ e2]
def Apart (u v : Value) : Prop := ∀ g, u.ownBlock = some g → v.ownBlock ≠ some g
theorem Apart.symm {u v : Value} (h : Apart u v) : Apart v u := fun g h1 h2 => h g h2 h1
theorem apart_kept {w w' : World} {base : Nat} {T : TypeId} {n : Nat} {u v : Value} {xs : List Value} (h : w.ownsRow base T 1 v n xs) (ha : Apart u v) (hg : w.grownBy w' u.ownBlock) : w'.ownsRow base T 1 v n xs := by
  refine h.kept hg ?_
  cases hu : u.ownBlock with
  | none =>
    cases hv : v.ownBlock with
    | none => exact .inl rfl
    | some g => exact .inr (by simp)
  | some g => exact .inr (ha g hu)
theorem apart_next {w : World} {base : Nat} {T : TypeId} {n : Nat} {u u' v : Value} {xs : List Value} (h : w.ownsRow base T 1 v n xs) (ha : Apart u v) (he : u'.ownBlock = u.ownBlock ∨ u'.ownBlock = some w.heap.size) : Apart u' v := fun g hg hv => by
  rcases he with he | he
  · rw [he] at hg; exact ha g hg hv
  · rw [he] at hg
    cases hg
    rcases h.2 with ⟨rfl, _⟩ | ⟨g', cap, cur, rfl, _, hh, _⟩
    · cases hv
    · cases hv
      exact absurd (Array.getElem?_eq_some_iff.1 hh).1 (Nat.lt_irrefl _)
end Go.Proofs.Ytbkbflhjfmkcoaa.CGemm
