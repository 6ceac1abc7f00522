/- Layer 10: all sums that a node makes of a tensor. -/
import Derived.Test.YtmnhcmkcdchmkaaTk
import Derived.Test.YtmnhcmkcdchmkaaConvWin
import Derived.Laws.MakeOwn
namespace Go.Proofs.Ytmnhcmkcdchmkaa.CConv
open Go Go.ChangeShapes Go.WideShapes Go.ChangeAt Go.RowKit
open Plain CSat CShape CTensor
set_option linter.unusedVariables false

theorem info_i32 : (Try.prog.info? 21).map (fun i => (i.zero, i.size, i.bytes)) = some (some (.int .i32 0), 1, 4) := by kernel_rfl
theorem info_parts32 {P : Program} {t : TypeId} {z : Option Value} {s b : Nat} (h : (P.info? t).map (fun i => (i.zero, i.size, i.bytes)) = some (z, s, b)) : ∃ i, P.info? t = some i ∧ i.zero = z ∧ i.size = s ∧ i.bytes = b := by
  cases hi : P.info? t with
  | none => rw [hi] at h; cases h
  | some i => rw [hi] at h; simp at h; exact ⟨i, rfl, h.1, h.2.1, h.2.2⟩
def I32v (zs : List Int) : List Value := zs.map (.int .i32)
def rowL (F : Nat → Int) (k : Nat) : List Int := (List.range k).map F
theorem rowL_len (F : Nat → Int) (k : Nat) : (rowL F k).length = k := by simp [rowL]
theorem rowL_succ (F : Nat → Int) (k : Nat) (x : Int) (h : F k = x) : I32v (rowL F k) ++ [.int .i32 x] = I32v (rowL F (k + 1)) := by
  simp [I32v, rowL, List.range_succ, h]
def gridF (b d : Nat) (G : Nat → Nat → Nat → Int) (i : Nat) : Int := G (i / d / b) (i / d % b) (i % d)
theorem grid_at (b d : Nat) (G : Nat → Nat → Nat → Int) {i j k : Nat} (hj : j < b) (hk : k < d) : gridF b d G ((i * b + j) * d + k) = G i j k := by
  unfold gridF
  have h1 : ((i * b + j) * d + k) / d = i * b + j := by rw [Nat.mul_comm, Nat.mul_add_div (by omega), Nat.div_eq_of_lt hk]; rfl
  have h2 : ((i * b + j) * d + k) % d = k := by rw [Nat.mul_comm, Nat.mul_add_mod, Nat.mod_eq_of_lt hk]
  have h3 : (i * b + j) / b = i := by rw [Nat.mul_comm, Nat.mul_add_div (by omega), Nat.div_eq_of_lt hj]; rfl
  have h4 : (i * b + j) % b = j := by rw [Nat.mul_comm, Nat.mul_add_mod, Nat.mod_eq_of_lt hj]
  rw [h1, h2, h3, h4]
theorem at_lt {a b d i j k : Nat} (hi : i < a) (hj : j < b) (hk : k < d) : (i * b + j) * d + k < a * b * d := by
  have e1 : (i + 1) * b ≤ a * b := Nat.mul_le_mul_right _ hi
  have e2 : (i * b + j + 1) * d ≤ a * b * d := Nat.mul_le_mul_right _ (by rw [Nat.add_mul, Nat.one_mul] at e1; omega)
  rw [Nat.add_mul _ 1 d, Nat.one_mul] at e2
  omega
/-- one sum, of 32 bits. -/
def sumF (zs ws bs : List Int) (H W C S P : Int) (d kk : Nat) (Z : Int) (h v o : Nat) : Int :=
  IntKind.i32.wrap (bs.getD o 0 + winF zs ws H W C ((h : Int) * S - P) ((v : Int) * S - P) d kk o Z)
/-- sums of the call's own, handed back with an error's number. -/
def MadeA (w : World) (H W C : Int) (n : Nat) (zs : List Int) (x : Value) (e : Ending) (w' : World) : Prop :=
  ∃ v, e = .returned (.tuple #[.agg #[.int .i64 H, .int .i64 W, .int .i64 C, v], x]) ∧ w'.ownsRow w.heap.size 21 1 v n (I32v zs) ∧ Below w.heap.size w w'
def ShapeAt (B : Nat) (H W C : Int) (wd : World) : Prop :=
  wd.cell? ⟨B, 0, none⟩ = some (.int .i64 H) ∧ wd.cell? ⟨B, 1, none⟩ = some (.int .i64 W) ∧ wd.cell? ⟨B, 2, none⟩ = some (.int .i64 C)
theorem ShapeAt.below {B B' : Nat} {H W C : Int} {w w' : World} (h : ShapeAt B H W C w) (hB : B < B') (hb : Below B' w w') : ShapeAt B H W C w' :=
  ⟨(hb.cell (p := ⟨B, 0, none⟩) hB).trans h.1, (hb.cell (p := ⟨B, 1, none⟩) hB).trans h.2.1, (hb.cell (p := ⟨B, 2, none⟩) hB).trans h.2.2⟩
theorem freshNew (T : TypeId) (w : World) : FreshT w.heap.size (w.alloc (.cells #[.int .i64 0, .int .i64 0, .int .i64 0, .slice none 0 0] T)) := FreshT.new T w _ rfl
theorem shapeNew (H W C : Int) (T : TypeId) (w : World) : ShapeAt w.heap.size H W C (w.alloc (.cells #[.int .i64 H, .int .i64 W, .int .i64 C] T)) := ⟨Kit.new_cell _ _ _ _, Kit.new_cell _ _ _ _, Kit.new_cell _ _ _ _⟩
theorem convE_ok {H W C K S P O : Int} {nW nB : Nat} (h : convE H W C K S P O nW nB = 0) : slideE H W C K S P O = 0 ∧ (nW : Int) = O * K * K * C ∧ nW ≤ 16384 ∧ (nB : Int) = O := by
  unfold convE at h
  by_cases h1 : slideE H W C K S P O ≠ 0
  · rw [if_pos h1] at h; exact absurd h h1
  · rw [if_neg h1] at h
    by_cases h2 : (nW : Int) = O * K * K * C ∧ nW ≤ 16384 ∧ (nB : Int) = O
    · exact ⟨by omega, h2⟩
    · rw [if_neg h2] at h; omega
/-- what is held of the calls' memory while the sums are made. -/
def OfAt (w : World) (H W C : Int) (A : Option Addr) (n c : Nat) (x0 x1 x2 x8 x11 x12 x13 x14 x15 x16 x17 x18 : Value) (K S P O Z : Int) (WA BA : Option Addr) (nW cW nB cB : Nat) (X Y U : Int) (g6 : Nat) (wr : World) : Prop :=
  BoxAt w.heap.size H W C A n c wr ∧ NodeAt (w.heap.size + 1) x0 x1 x2 x8 x11 x12 x13 x14 x15 x16 x17 x18 K S P O Z WA BA nW cW nB cB wr ∧ FreshT (w.heap.size + 2) wr ∧ ShapeAt g6 X Y U wr ∧ Below w.heap.size w wr ∧ g6 + 1 ≤ wr.heap.size
theorem OfAt.below {w : World} {H W C : Int} {A : Option Addr} {n c : Nat} {x0 x1 x2 x8 x11 x12 x13 x14 x15 x16 x17 x18 : Value} {K S P O Z : Int} {WA BA : Option Addr} {nW cW nB cB : Nat} {X Y U : Int} {g6 : Nat} {w1 w2 : World} {B' : Nat} (h : OfAt w H W C A n c x0 x1 x2 x8 x11 x12 x13 x14 x15 x16 x17 x18 K S P O Z WA BA nW cW nB cB X Y U g6 w1) (h6 : w.heap.size + 3 ≤ g6) (hB : g6 < B') (hb : Below B' w1 w2) : OfAt w H W C A n c x0 x1 x2 x8 x11 x12 x13 x14 x15 x16 x17 x18 K S P O Z WA BA nW cW nB cB X Y U g6 w2 := by
  obtain ⟨a1, a2, a3, a4, a5, a6⟩ := h
  exact ⟨a1.below (by omega) hb, a2.below (by omega) hb, a3.below (by omega) hb, a4.below hB hb, a5.trans (hb.mono (by omega)), Nat.le_trans a6 hb.size⟩
theorem own_set4 {w : World} {base g : Nat} {e : TypeId} {size n : Nat} {v : Value} {xs : List Value} {x y z u : Value} (h : w.ownsRow base e size v n xs) (hg : g < base) : ((((w.setCell ⟨g, 0, none⟩ x).setCell ⟨g, 1, none⟩ y).setCell ⟨g, 2, none⟩ z).setCell ⟨g, 3, none⟩ u).ownsRow base e size v n xs :=
  own_set (own_set (own_set (own_set h _ _ hg) _ _ hg) _ _ hg) _ _ hg
end Go.Proofs.Ytmnhcmkcdchmkaa.CConv
