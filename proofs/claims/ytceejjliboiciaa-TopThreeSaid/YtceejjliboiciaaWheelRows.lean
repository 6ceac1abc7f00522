/- Rows, weights and wheels as they lie in memory. -/
import Derived.Test.YtceejjliboiciaaWheelOne
import Derived.Test.YtceejjliboiciaaOpenRows
import Derived.Laws.CopyOwn
namespace Go.Proofs.Ytceejjliboiciaa.CWheel
open Go Go.ChangeShapes Go.WideShapes Go.ChangeAt Go.RowKit
open FloatNum CFour
set_option linter.unusedVariables false

theorem in16 {n : Int} (h : (Lit.int .i16 n).wf = true) : In16 n := by
  have : -32768 ≤ n ∧ n ≤ 32767 := by simpa [Lit.wf, IntKind.min, IntKind.max, IntKind.signed, IntKind.bits] using h
  exact this
theorem inW {n : Int} (h : (Lit.int .i8 n).wf = true) : InW n := by
  have : -128 ≤ n ∧ n ≤ 127 := by simpa [Lit.wf, IntKind.min, IntKind.max, IntKind.signed, IntKind.bits] using h
  exact this
/-- the numbers of rows, 0 behind their ends. -/
def XR (rows : List (List Int)) (k i : Nat) : Int := (rows.getD k []).getD i 0
theorem XR_at {rows : List (List Int)} {k : Nat} (hk : k < rows.length) (i : Nat) : XR rows k i = rows[k].getD i 0 := by
  unfold XR
  rw [List.getD_eq_getElem?_getD (l := rows), List.getElem?_eq_getElem hk]; rfl
theorem XR_in {rows : List (List Int)} (h : ∀ row ∈ rows, ∀ n ∈ row, (Lit.int .i16 n).wf = true) (k i : Nat) : In16 (XR rows k i) := by
  have h0 : In16 0 := by unfold In16; omega
  unfold XR
  rw [List.getD_eq_getElem?_getD (l := rows)]
  cases hr : rows[k]? with
  | none => simp; exact h0
  | some row =>
    rw [Option.getD_some, List.getD_eq_getElem?_getD]
    cases hz : row[i]? with
    | none => exact h0
    | some z =>
      have := h row (List.mem_of_getElem? hr) z (List.mem_of_getElem? hz)
      rw [Option.getD_some]
      exact in16 this
/-- three weights each, one behind the other. -/
def Wts (w : World) (B : Nat) (A : Option Addr) (n : Nat) (W : Nat → Nat → Int) : Prop :=
  ∀ k, k < n → ∃ b o, A = some ⟨b, o, none⟩ ∧ b < B ∧ w.rangeAt b (o + k * 3) [.int .i8 (W k 0), .int .i8 (W k 1), .int .i8 (W k 2)]
theorem range_below {w w' : World} {B b o : Nat} {vs : List Value} (h : w.rangeAt b o vs) (hb : Below B w w') (hB : b < B) : w'.rangeAt b o vs := fun j v hj => by
  rw [hb.cell (p := ⟨b, o + j, none⟩) hB]; exact h j v hj
theorem Wts.below {w w' : World} {B n : Nat} {A : Option Addr} {W : Nat → Nat → Int} (h : Wts w B A n W) (hb : Below B w w') : Wts w' B A n W := fun k hk => by
  obtain ⟨b, o, e, h1, h2⟩ := h k hk
  exact ⟨b, o, e, h1, range_below h2 hb h1⟩
theorem Wts.more {w : World} {B B' n : Nat} {A : Option Addr} {W : Nat → Nat → Int} (h : Wts w B A n W) (hb : B ≤ B') : Wts w B' A n W := fun k hk => by
  obtain ⟨b, o, e, h1, h2⟩ := h k hk
  exact ⟨b, o, e, by omega, h2⟩
/-- four turned sums each, one behind the other. -/
def Wheels (w : World) (B : Nat) (A : Option Addr) (n : Nat) (W : Nat → Nat → Int) : Prop :=
  ∀ k, k < n → ∃ (b o : Nat) (S : Nat → Value), A = some ⟨b, o, none⟩ ∧ b < B ∧ (∀ i, i < 4 → IsC (S i) (wh4 (W k 0) 0 (W k 2) (W k 1) i)) ∧ w.rangeAt b (o + k * 4) [S 0, S 1, S 2, S 3]
theorem Wheels.below {w w' : World} {B n : Nat} {A : Option Addr} {W : Nat → Nat → Int} (h : Wheels w B A n W) (hb : Below B w w') : Wheels w' B A n W := fun k hk => by
  obtain ⟨b, o, S, e, h1, h2, h3⟩ := h k hk
  exact ⟨b, o, S, e, h1, h2, range_below h3 hb h1⟩
theorem Wheels.more {w : World} {B B' n : Nat} {A : Option Addr} {W : Nat → Nat → Int} (h : Wheels w B A n W) (hb : B ≤ B') : Wheels w B' A n W := fun k hk => by
  obtain ⟨b, o, S, e, h1, h2, h3⟩ := h k hk
  exact ⟨b, o, S, e, by omega, h2, h3⟩
/-- what four numbers of a row are that are copied over four zeros. -/
theorem splice_four (row : List Int) (f : Nat) : splice [.int .i16 0, .int .i16 0, .int .i16 0, .int .i16 0] 0 (((row.drop f).take 4).map (Value.int .i16)) =
    [.int .i16 (row.getD f 0), .int .i16 (row.getD (f + 1) 0), .int .i16 (row.getD (f + 2) 0), .int .i16 (row.getD (f + 3) 0)] := by
  have e : ∀ j, row.getD (f + j) 0 = (row.drop f).getD j 0 := fun j => by
    rw [List.getD_eq_getElem?_getD, List.getD_eq_getElem?_getD, List.getElem?_drop]
  have e0 := e 0
  rw [Nat.add_zero] at e0
  rw [e0, e 1, e 2, e 3]
  generalize row.drop f = l
  unfold splice
  match l with
  | [] => rfl
  | [a] => rfl
  | [a, b] => rfl
  | [a, b, c] => rfl
  | a :: b :: c :: d :: l => simp
end Go.Proofs.Ytceejjliboiciaa.CWheel
