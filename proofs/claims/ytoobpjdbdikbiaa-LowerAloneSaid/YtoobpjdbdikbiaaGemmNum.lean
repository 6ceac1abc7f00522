/- Layer 12 (gemm): rows of numbers that are filled in whatever order; tiles. -/
import Derived.Test.YtoobpjdbdikbiaaGemmHold
namespace Go.Proofs.Ytoobpjdbdikbiaa.CGemm
open Go Go.ChangeShapes Go.WideShapes Go.ChangeAt Go.RowKit
open Plain
set_option linter.unusedVariables false

def I32v (zs : List Int) : List Value := zs.map (.int .i32)
def I8v (zs : List Int) : List Value := zs.map (.int .i8)
/-- the first n numbers of a rule. -/
def rowL (F : Nat → Int) (n : Nat) : List Int := (List.range n).map F
theorem rowL_len (F : Nat → Int) (n : Nat) : (rowL F n).length = n := by simp [rowL]
theorem rowL_succ (F : Nat → Int) (n : Nat) : rowL F (n + 1) = rowL F n ++ [F n] := by simp [rowL, List.range_succ]
theorem rowL_at (F : Nat → Int) {n i : Nat} (h : i < n) : (rowL F n)[i]? = some (F i) := by simp [rowL, h]
theorem rowL_getD (F : Nat → Int) {n i : Nat} (h : i < n) : (rowL F n).getD i 0 = F i := by rw [List.getD_eq_getElem?_getD, rowL_at F h]; rfl
theorem rowL_congr {F G : Nat → Int} {n : Nat} (h : ∀ i, i < n → F i = G i) : rowL F n = rowL G n := by
  apply List.ext_getElem?
  intro i
  by_cases hi : i < n
  · rw [rowL_at F hi, rowL_at G hi, h i hi]
  · rw [List.getElem?_eq_none (by rw [rowL_len]; omega), List.getElem?_eq_none (by rw [rowL_len]; omega)]
theorem eq_rowL {P : List Int} {F : Nat → Int} {n : Nat} (hl : P.length = n) (h : ∀ i, i < n → P[i]? = some (F i)) : P = rowL F n := by
  apply List.ext_getElem?
  intro i
  by_cases hi : i < n
  · rw [rowL_at F hi, h i hi]
  · rw [List.getElem?_eq_none (by omega), List.getElem?_eq_none (by rw [rowL_len]; omega)]
/-- n numbers, of which those of D stand already. -/
def Filled (n : Nat) (D : Nat → Prop) (F : Nat → Int) (P : List Int) : Prop := P.length = n ∧ ∀ i, i < n → D i → P[i]? = some (F i)
theorem Filled.mono {n : Nat} {D D' : Nat → Prop} {F : Nat → Int} {P : List Int} (h : Filled n D F P) (hd : ∀ i, i < n → D' i → D i) : Filled n D' F P := ⟨h.1, fun i hi hD => h.2 i hi (hd i hi hD)⟩
theorem Filled.set {n : Nat} {D D' : Nat → Prop} {F : Nat → Int} {P : List Int} (h : Filled n D F P) {j : Nat} {v : Int} (hv : F j = v) (hd : ∀ i, i < n → D' i → D i ∨ i = j) : Filled n D' F (P.set j v) := by
  refine ⟨by simpa using h.1, fun i hi hD => ?_⟩
  rw [List.getElem?_set]
  by_cases e : j = i
  · subst e
    rw [if_pos rfl, if_pos (by rw [h.1]; exact hi), hv]
  · rw [if_neg e]
    rcases hd i hi hD with h1 | h1
    · exact h.2 i hi h1
    · exact absurd h1.symm e
theorem Filled.all {n : Nat} {D : Nat → Prop} {F : Nat → Int} {P : List Int} (h : Filled n D F P) (hd : ∀ i, i < n → D i) : P = rowL F n := eq_rowL h.1 fun i hi => h.2 i hi (hd i hi)
theorem Filled.none {n : Nat} {D : Nat → Prop} {F : Nat → Int} (hd : ∀ i, i < n → ¬ D i) : Filled n D F (List.replicate n 0) := ⟨by simp, fun i hi hD => absurd hD (hd i hi)⟩
theorem I32v_set (ys : List Int) (i : Nat) (x : Int) : (I32v ys).set i (.int .i32 x) = I32v (ys.set i x) := by simp [I32v, List.map_set]
theorem I8v_set (ys : List Int) (i : Nat) (x : Int) : (I8v ys).set i (.int .i8 x) = I8v (ys.set i x) := by simp [I8v, List.map_set]
theorem I32v_len (ys : List Int) : (I32v ys).length = ys.length := by simp [I32v]
theorem I8v_len (ys : List Int) : (I8v ys).length = ys.length := by simp [I8v]

/-! ### tiles -/
/-- the tile of the number at i. -/
def tileOf (cols : Nat) (i : Nat) : Nat := i / cols / 32 * ((cols + 31) / 32) + i % cols / 32
theorem tile_parts {cols i k : Nat} (hc : 0 < cols) (h : tileOf cols i = k) : i / cols / 32 = k / ((cols + 31) / 32) ∧ i % cols / 32 = k % ((cols + 31) / 32) := by
  have hm : i % cols < cols := Nat.mod_lt _ hc
  unfold tileOf at h
  have ha : 0 < (cols + 31) / 32 := by omega
  have hb : i % cols / 32 < (cols + 31) / 32 := by omega
  generalize (cols + 31) / 32 = a at *
  subst h
  constructor
  · rw [Nat.add_comm, Nat.add_mul_div_right _ _ ha, Nat.div_eq_of_lt hb, Nat.zero_add]
  · rw [Nat.add_comm, Nat.add_mul_mod_self_right, Nat.mod_eq_of_lt hb]
theorem tile_last {rows cols i : Nat} (hc : 0 < cols) (h : i < rows * cols) : tileOf cols i < (rows + 31) / 32 * ((cols + 31) / 32) := by
  have hm : i % cols < cols := Nat.mod_lt _ hc
  have hr : i / cols < rows := Nat.div_lt_of_lt_mul (by rw [Nat.mul_comm]; exact h)
  unfold tileOf
  have hb : i % cols / 32 < (cols + 31) / 32 := by omega
  have hq : i / cols / 32 + 1 ≤ (rows + 31) / 32 := by omega
  have := Nat.mul_le_mul_right ((cols + 31) / 32) hq
  rw [Nat.add_mul, Nat.one_mul] at this
  omega
theorem place_of {cols r c : Nat} (hc : c < cols) : (r * cols + c) / cols = r ∧ (r * cols + c) % cols = c := by
  have h0 : 0 < cols := by omega
  constructor
  · rw [Nat.add_comm, Nat.add_mul_div_right _ _ h0, Nat.div_eq_of_lt hc, Nat.zero_add]
  · rw [Nat.add_comm, Nat.add_mul_mod_self_right, Nat.mod_eq_of_lt hc]
theorem place_back {cols i : Nat} : i / cols * cols + i % cols = i := by rw [Nat.mul_comm]; exact Nat.div_add_mod i cols
theorem place_lt {rows cols r c : Nat} (hr : r < rows) (hc : c < cols) : r * cols + c < rows * cols := by
  have := Nat.mul_le_mul_right cols (show r + 1 ≤ rows by omega)
  rw [Nat.add_mul, Nat.one_mul] at this
  omega
/-- what stands when tile k is at row r, column c. -/
def Done3 (cols k r c i : Nat) : Prop := tileOf cols i < k ∨ (tileOf cols i = k ∧ (i / cols < r ∨ (i / cols = r ∧ i % cols < c)))
def Done2 (cols k r i : Nat) : Prop := tileOf cols i < k ∨ (tileOf cols i = k ∧ i / cols < r)
def Done1 (cols k i : Nat) : Prop := tileOf cols i < k
theorem done21 {cols k : Nat} (hc : 0 < cols) {i : Nat} (h : Done2 cols k (k / ((cols + 31) / 32) * 32) i) : Done1 cols k i := by
  rcases h with h | ⟨h1, h2⟩
  · exact h
  · have := (tile_parts hc h1).1; omega
theorem done12 {cols k rows r i : Nat} (hc : 0 < cols) (hi : i < rows * cols) (hr : r = rows ∨ (k / ((cols + 31) / 32) + 1) * 32 ≤ r) (h : Done1 cols (k + 1) i) : Done2 cols k r i := by
  have hq : i / cols < rows := Nat.div_lt_of_lt_mul (by rw [Nat.mul_comm]; exact hi)
  unfold Done1 at h
  rcases Nat.lt_or_ge (tileOf cols i) k with h1 | h1
  · exact .inl h1
  · have h2 : tileOf cols i = k := by omega
    have := (tile_parts hc h2).1
    exact .inr ⟨h2, by omega⟩
theorem done32 {cols k r : Nat} (hc : 0 < cols) {i : Nat} (h : Done3 cols k r (k % ((cols + 31) / 32) * 32) i) : Done2 cols k r i := by
  rcases h with h | ⟨h1, h2⟩
  · exact .inl h
  · have := (tile_parts hc h1).2
    exact .inr ⟨h1, by omega⟩
theorem done23 {cols k r c i : Nat} (hc : 0 < cols) (hr : c = cols ∨ (k % ((cols + 31) / 32) + 1) * 32 ≤ c) (h : Done2 cols k (r + 1) i) : Done3 cols k r c i := by
  have hm : i % cols < cols := Nat.mod_lt _ hc
  rcases h with h1 | ⟨h1, h2⟩
  · exact .inl h1
  · have := (tile_parts hc h1).2
    exact .inr ⟨h1, by omega⟩
theorem done33 {cols k r c i : Nat} (h : Done3 cols k r (c + 1) i) : Done3 cols k r c i ∨ i = r * cols + c := by
  rcases h with h1 | ⟨h1, h2⟩
  · exact .inl (.inl h1)
  · by_cases h3 : i / cols = r ∧ i % cols = c
    · right; rw [← h3.1, ← h3.2]; exact place_back.symm
    · exact .inl (.inr ⟨h1, by omega⟩)
section
variable {cols k a p q e0 e1 e2 e3 : Nat} (hc : 0 < cols) (ha : (cols + 31) / 32 = a) (hp : k / a = p) (hq : k % a = q)
include hc ha
theorem to21 (hp : k / a = p) (h0 : p * 32 = e0) {i : Nat} (h : Done2 cols k e0 i) : Done1 cols k i := by
  subst ha hp h0; exact done21 hc h
theorem to12 (hp : k / a = p) (h1 : (p + 1) * 32 = e1) {rows r i : Nat} (hi : i < rows * cols) (hr : r = rows ∨ e1 ≤ r) (h : Done1 cols (k + 1) i) : Done2 cols k r i := by
  subst ha hp h1; exact done12 hc hi hr h
theorem to32 (hq : k % a = q) (h2 : q * 32 = e2) {r i : Nat} (h : Done3 cols k r e2 i) : Done2 cols k r i := by
  subst ha hq h2; exact done32 hc h
theorem to23 (hq : k % a = q) (h3 : (q + 1) * 32 = e3) {r c i : Nat} (hr : c = cols ∨ e3 ≤ c) (h : Done2 cols k (r + 1) i) : Done3 cols k r c i := by
  subst ha hq h3; exact done23 hc hr h
end
/-- a number of the product. -/
def mulF (xs ys : List Int) (mid cols : Nat) (i : Nat) : Int := IntKind.i32.wrap (psum (fun k => xs.getD (i / cols * mid + k) 0 * ys.getD (i % cols * mid + k) 0) mid)
theorem cut_getD (xs : List Int) {p m k : Nat} (h : k < m) : ((xs.drop p).take m).getD k 0 = xs.getD (p + k) 0 := by
  rw [List.getD_eq_getElem?_getD, List.getElem?_take, if_pos h, List.getElem?_drop, ← List.getD_eq_getElem?_getD]
theorem cut_sum (xs ys : List Int) (p q m : Nat) : psum (dotF ((xs.drop p).take m) ((ys.drop q).take m)) m = psum (fun k => xs.getD (p + k) 0 * ys.getD (q + k) 0) m :=
  psum_congr fun k hk => by unfold dotF; rw [cut_getD _ hk, cut_getD _ hk]
theorem getD_none (xs : List Int) {k : Nat} (h : xs.length ≤ k) : xs.getD k 0 = 0 := by rw [List.getD_eq_getElem?_getD, List.getElem?_eq_none h]; rfl
theorem cut_I16 {xs : List Int} (h : I16b xs) (p m : Nat) : I16b ((xs.drop p).take m) := fun q => by
  by_cases hq : q < m
  · rw [cut_getD _ hq]; exact h _
  · rw [getD_none _ (by simp; omega)]; omega
theorem cut_I8 {xs : List Int} (h : I8b xs) (p m : Nat) : I8b ((xs.drop p).take m) := fun q => by
  by_cases hq : q < m
  · rw [cut_getD _ hq]; exact h _
  · rw [getD_none _ (by simp; omega)]; omega
/-- a piece of a slice reads. -/
theorem cut_rd {w : World} {B : Nat} {b o : Nat} {k : IntKind} {zs : List Int} (h : Kit.Rd w B (some ⟨b, o, none⟩) (zs.map (.int k))) (p m : Nat) : Kit.Rd w B (some ⟨b, o + p, none⟩) (((zs.drop p).take m).map (.int k)) := by
  have h9 := (h.drop p).take m
  rw [Option.map_some, Go.WideShapes.add_plain] at h9
  rw [List.map_take, List.map_drop]; exact h9
theorem cut_len {zs : List Int} {n p m : Nat} (hl : zs.length = n) (h : p + m ≤ n) : ((zs.drop p).take m).length = m := by simp; omega
theorem mul_at (xs ys : List Int) {m c i j I1 I2 A1 B1 : Nat} (h1 : i * c = I1) (h2 : I1 + j = I2) (hj : j < c) (h3 : i * m = A1) (h4 : j * m = B1) {F : Nat → Int} (hF : F = mulF xs ys m c) :
    IntKind.i32.wrap (psum (dotF ((xs.drop A1).take m) ((ys.drop B1).take m)) m) = F I2 := by
  subst h1 h2 h3 h4 hF
  obtain ⟨e1, e2⟩ := place_of (r := i) hj
  rw [cut_sum]
  unfold mulF
  rw [e1, e2]
end Go.Proofs.Ytoobpjdbdikbiaa.CGemm
