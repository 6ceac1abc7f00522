/- Layer 10: what a window adds to a sum of a channel that goes out. -/
import Derived.Test.YtmnhcmkcdchmkaaConvProd
import Derived.Handy
namespace Go.Proofs.Ytmnhcmkcdchmkaa.CConv
open Go Go.ChangeShapes Go.WideShapes Go.ChangeAt Go.RowKit
open Plain CSat CShape CTensor
set_option linter.unusedVariables false

/-- the box of a node. -/
def NodeAt (B : Nat) (x0 x1 x2 x8 x11 x12 x13 x14 x15 x16 x17 x18 : Value) (K S P O Z : Int) (WA BA : Option Addr) (nW cW nB cB : Nat) (wd : World) : Prop := wd.rangeAt B 0 [x0, x1, x2, .int .i64 K, .int .i64 S, .int .i64 P, .int .i64 O, .int .i8 Z, x8, .slice WA nW cW, .slice BA nB cB, x11, x12, x13, x14, x15, x16, x17, x18]
theorem NodeAt.new (x0 x1 x2 x8 x11 x12 x13 x14 x15 x16 x17 x18 : Value) (K S P O Z : Int) (WA BA : Option Addr) (nW cW nB cB : Nat) (T : TypeId) (w : World) : NodeAt w.heap.size x0 x1 x2 x8 x11 x12 x13 x14 x15 x16 x17 x18 K S P O Z WA BA nW cW nB cB (w.alloc (.cells #[x0, x1, x2, .int .i64 K, .int .i64 S, .int .i64 P, .int .i64 O, .int .i8 Z, x8, .slice WA nW cW, .slice BA nB cB, x11, x12, x13, x14, x15, x16, x17, x18] T)) := fun j v hj => by
  rw [Nat.zero_add, Kit.new_cell]
  simpa using hj
theorem NodeAt.below {B B' : Nat} {x0 x1 x2 x8 x11 x12 x13 x14 x15 x16 x17 x18 : Value} {K S P O Z : Int} {WA BA : Option Addr} {nW cW nB cB : Nat} {w w' : World} (h : NodeAt B x0 x1 x2 x8 x11 x12 x13 x14 x15 x16 x17 x18 K S P O Z WA BA nW cW nB cB w) (hB : B < B') (hb : Below B' w w') : NodeAt B x0 x1 x2 x8 x11 x12 x13 x14 x15 x16 x17 x18 K S P O Z WA BA nW cW nB cB w' := fun j v hj =>
  (hb.cell (p := ⟨B, 0 + j, none⟩) hB).trans (h j v hj)
theorem NodeAt.at {B : Nat} {x0 x1 x2 x8 x11 x12 x13 x14 x15 x16 x17 x18 : Value} {K S P O Z : Int} {WA BA : Option Addr} {nW cW nB cB : Nat} {w : World} (h : NodeAt B x0 x1 x2 x8 x11 x12 x13 x14 x15 x16 x17 x18 K S P O Z WA BA nW cW nB cB w) (i : Nat) (v : Value) (hi : ([x0, x1, x2, .int .i64 K, .int .i64 S, .int .i64 P, .int .i64 O, .int .i8 Z, x8, .slice WA nW cW, .slice BA nB cB, x11, x12, x13, x14, x15, x16, x17, x18] : List Value)[i]? = some v) : w.cell? ⟨B, i, none⟩ = some v := by
  have := h i v hi
  rwa [Nat.zero_add] at this
theorem NodeAt.load {B : Nat} {x0 x1 x2 x8 x11 x12 x13 x14 x15 x16 x17 x18 : Value} {K S P O Z : Int} {WA BA : Option Addr} {nW cW nB cB : Nat} {w : World} (h : NodeAt B x0 x1 x2 x8 x11 x12 x13 x14 x15 x16 x17 x18 K S P O Z WA BA nW cW nB cB w) : (Instr.loadAt 61 (.pointer (some ⟨B, 0, none⟩))).run Try.prog w = .ok (.agg #[x0, x1, x2, .int .i64 K, .int .i64 S, .int .i64 P, .int .i64 O, .int .i8 Z, x8, .slice WA nW cW, .slice BA nB cB, x11, x12, x13, x14, x15, x16, x17, x18]) w :=
  run_loadAt_mid w B 0 _ [x0, x1, x2, .int .i64 K, .int .i64 S, .int .i64 P, .int .i64 O, .int .i8 Z, x8, .slice WA nW cW, .slice BA nB cB, x11, x12, x13, x14, x15, x16, x17, x18] _ h Try.underlying61 rfl (by kernel_rfl)
/-- what one place of a window adds. -/
def placeF (zs ws : List Int) (H W C top left : Int) (d kk o : Nat) (Z : Int) (i j : Nat) : Int :=
  if 0 ≤ top + (i : Int) ∧ top + (i : Int) < H ∧ 0 ≤ left + (j : Int) ∧ left + (j : Int) < W then psum (termF zs ws (((top + (i : Int)) * W + (left + (j : Int))) * C).toNat (((o * kk + i) * kk + j) * d) Z) d else 0
def rowF (zs ws : List Int) (H W C top left : Int) (d kk o : Nat) (Z : Int) (i : Nat) : Int := psum (placeF zs ws H W C top left d kk o Z i) kk
def winF (zs ws : List Int) (H W C top left : Int) (d kk o : Nat) (Z : Int) : Int := psum (rowF zs ws H W C top left d kk o Z) kk
theorem drop_term (zs ws : List Int) (st o : Nat) (Z : Int) (d : Nat) : psum (termF zs (ws.drop o) st 0 Z) d = psum (termF zs ws st o Z) d :=
  psum_congr fun k _ => by simp [termF, List.getD_eq_getElem?_getD, List.getElem?_drop]
theorem drop_I8b {ws : List Int} (h : I8b ws) (o : Nat) : I8b (ws.drop o) := fun q => by
  have := h (o + q)
  rw [List.getD_eq_getElem?_getD, List.getElem?_drop, ← List.getD_eq_getElem?_getD]
  exact this
theorem i8s_drop (ws : List Int) (o : Nat) : (I8s ws).drop o = I8s (ws.drop o) := by simp [I8s, List.map_drop]
theorem place_le {a b c d i j k : Nat} (hi : i < a) (hj : j < b) (hk : k < c) : ((i * b + j) * c + k) * d + d ≤ a * b * c * d := by
  have e1 : (i + 1) * b ≤ a * b := Nat.mul_le_mul_right _ hi
  have e2 : (i * b + j + 1) * c ≤ a * b * c := Nat.mul_le_mul_right _ (by rw [Nat.add_mul, Nat.one_mul] at e1; omega)
  have e3 : ((i * b + j) * c + k + 1) * d ≤ a * b * c * d := Nat.mul_le_mul_right _ (by rw [Nat.add_mul _ 1 c, Nat.one_mul] at e2; omega)
  rw [Nat.add_mul _ 1 d, Nat.one_mul] at e3
  exact e3
end Go.Proofs.Ytmnhcmkcdchmkaa.CConv
