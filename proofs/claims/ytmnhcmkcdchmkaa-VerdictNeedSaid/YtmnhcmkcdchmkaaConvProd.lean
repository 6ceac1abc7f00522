/- Layer 10: sums of products; what all channels at a place add. -/
import Derived.Test.YtmnhcmkcdchmkaaTk
import Derived.Test.YtmnhcmkcdchmkaaConvShape
import Derived.Test.YtmnhcmkcdchmkaaPadRef
import Derived.IntWalk
import Derived.BigQuiet
namespace Go.Proofs.Ytmnhcmkcdchmkaa.CConv
open Go Go.ChangeShapes Go.WideShapes Go.ChangeAt Go.RowKit
open Plain CSat CShape CTensor
set_option linter.unusedVariables false

theorem jump_ret {l : Nat} {J : Act → World → Prop} {Q : Exit → Act → World → Prop} {a : Act} {w : World} : Exit.jump l J Q Exit.ret a w = Q Exit.ret a w := rfl
theorem boxNew (H W C : Int) (A : Option Addr) (n c : Nat) (T : TypeId) (w : World) : BoxAt w.heap.size H W C A n c (w.alloc (.cells #[.int .i64 H, .int .i64 W, .int .i64 C, .slice A n c] T)) := BoxAt.new H W C A n c T w
/-- the sum of the first n. -/
def psum (G : Nat → Int) : Nat → Int
  | 0 => 0
  | n + 1 => psum G n + G n
theorem psum_bd {G : Nat → Int} {b : Int} {n : Nat} (h : ∀ k, k < n → -b ≤ G k ∧ G k ≤ b) : -(b * n) ≤ psum G n ∧ psum G n ≤ b * n := by
  induction n with
  | zero => simp [psum]
  | succ n ih =>
    have h1 := ih (fun k hk => h k (by omega))
    have h2 := h n (by omega)
    have e : b * ((n + 1 : Nat) : Int) = b * (n : Int) + b := by rw [show ((n + 1 : Nat) : Int) = (n : Int) + 1 by omega, Int.mul_add, Int.mul_one]
    rw [e]
    simp only [psum]
    omega
theorem psum_congr {G G' : Nat → Int} {n : Nat} (h : ∀ k, k < n → G k = G' k) : psum G n = psum G' n := by
  induction n with
  | zero => rfl
  | succ n ih => simp only [psum]; rw [ih (fun k hk => h k (by omega)), h n (by omega)]
theorem psum_zero {G : Nat → Int} {n : Nat} (h : ∀ k, k < n → G k = 0) : psum G n = 0 := by
  induction n with
  | zero => rfl
  | succ n ih => simp only [psum]; rw [ih (fun k hk => h k (by omega)), h n (by omega)]; rfl
theorem wrap32_add (a b : Int) : IntKind.i32.wrap (IntKind.i32.wrap a + b) = IntKind.i32.wrap (a + b) := by rw [IntKind.wrap_i32, IntKind.wrap_i32, IntKind.wrap_i32]; omega
theorem wrap32_add' (a b : Int) : IntKind.i32.wrap (a + IntKind.i32.wrap b) = IntKind.i32.wrap (a + b) := by rw [IntKind.wrap_i32, IntKind.wrap_i32, IntKind.wrap_i32]; omega
/-- a weight times a number above what stands for 0. -/
theorem term_bd {x y z : Int} (x1 : -128 ≤ x) (x2 : x ≤ 127) (y1 : -128 ≤ y) (y2 : y ≤ 127) (z1 : -128 ≤ z) (z2 : z ≤ 127) : -32640 ≤ y * (x - z) ∧ y * (x - z) ≤ 32640 := by
  have h1 : -255 ≤ x - z := by omega
  have h2 : x - z ≤ 255 := by omega
  generalize x - z = u at h1 h2
  have a1 : 0 ≤ (128 + y) * (255 - u) := Int.mul_nonneg (by omega) (by omega)
  have a2 : 0 ≤ (128 + y) * (255 + u) := Int.mul_nonneg (by omega) (by omega)
  have a3 : 0 ≤ (127 - y) * (255 - u) := Int.mul_nonneg (by omega) (by omega)
  have a4 : 0 ≤ (127 - y) * (255 + u) := Int.mul_nonneg (by omega) (by omega)
  simp only [Int.add_mul, Int.sub_mul, Int.mul_sub, Int.mul_add] at a1 a2 a3 a4
  omega
def I8b (zs : List Int) : Prop := ∀ q, -128 ≤ zs.getD q 0 ∧ zs.getD q 0 ≤ 127
/-- what one place adds for one channel. -/
def termF (zs ws : List Int) (st o : Nat) (Z : Int) (c : Nat) : Int := ws.getD (o + c) 0 * (zs.getD (st + c) 0 - Z)
theorem termF_bd {zs ws : List Int} {st o : Nat} {Z : Int} {c : Nat} (hz : I8b zs) (hw : I8b ws) (z1 : -128 ≤ Z) (z2 : Z ≤ 127) : -32640 ≤ termF zs ws st o Z c ∧ termF zs ws st o Z c ≤ 32640 :=
  term_bd (hz _).1 (hz _).2 (hw _).1 (hw _).2 z1 z2
theorem ints_getD {w : World} {B : Nat} {A : Option Addr} {k : IntKind} {zs : List Int} (h : Kit.Rd w B A (zs.map (.int k))) {j : Nat} (hj : j < zs.length) :
    ∃ b off, A = some ⟨b, off, none⟩ ∧ b < B ∧ ∀ i, i < zs.length → w.cell? ⟨b, off + i, none⟩ = some (.int k (zs.getD i 0)) := by
  obtain ⟨b, off, e, hb, hc⟩ := h.plain (by simp; omega)
  exact ⟨b, off, e, hb, fun i hi => hc i _ (by simp [List.getD_eq_getElem?_getD, List.getElem?_eq_getElem hi])⟩
end Go.Proofs.Ytmnhcmkcdchmkaa.CConv
