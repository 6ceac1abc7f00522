/- Layer 23 (turn), the code: a tensor whose numbers are moved; how a round stands. -/
import Derived.Test.YtmjcjdgdpecpjaaTurnTau
import Derived.Laws.MakeOwn
import Derived.Laws.CopyOwn
import Derived.Deep.CutRange
namespace Go.Proofs.Ytmjcjdgdpecpjaa.CTurn
open Go Go.ChangeShapes Go.WideShapes Go.ChangeAt Go.RowKit Go.Deep
open Plain CSat CShape CTensor CPad FloatNum
set_option linter.unusedVariables false

/-- the boxes of a tensor and of the new shape. -/
def TwoAt (g : Nat) (H W C : Int) (A : Option Addr) (n c : Nat) (U V : Int) (w : World) : Prop :=
  BoxAt g H W C A n c w ∧ (w.cell? ⟨g + 1, 0, none⟩ = some (.int .i64 U) ∧ w.cell? ⟨g + 1, 1, none⟩ = some (.int .i64 V) ∧ w.cell? ⟨g + 1, 2, none⟩ = some (.int .i64 C))
theorem TwoAt.below {g : Nat} {H W C : Int} {A : Option Addr} {n c : Nat} {U V : Int} {w w' : World} (h : TwoAt g H W C A n c U V w) {B : Nat} (hB : g + 1 < B) (hb : Below B w w') : TwoAt g H W C A n c U V w' := by
  obtain ⟨h0, h1, h2, h3⟩ := h
  exact ⟨h0.below (by omega) hb, (hb.cell (p := ⟨g + 1, 0, none⟩) hB).trans h1, (hb.cell (p := ⟨g + 1, 1, none⟩) hB).trans h2, (hb.cell (p := ⟨g + 1, 2, none⟩) hB).trans h3⟩
/-- how a round stands, but for the row. -/
def MvAt (w0 : World) (H W C : Int) (A : Option Addr) (n c : Nat) (U V : Int) (w : World) : Prop :=
  TwoAt w0.heap.size H W C A n c U V w ∧ FreshT (w0.heap.size + 2) w ∧ Below w0.heap.size w0 w ∧ w0.heap.size + 3 < w.heap.size
theorem MvAt.below {w0 : World} {H W C : Int} {A : Option Addr} {n c : Nat} {U V : Int} {w w' : World} (h : MvAt w0 H W C A n c U V w) (hb : Below (w0.heap.size + 3) w w') : MvAt w0 H W C A n c U V w' := by
  obtain ⟨h1, h2, h3, h4⟩ := h
  exact ⟨h1.below (by omega) hb, h2.below (by omega) hb, h3.trans (hb.mono (by omega)), Nat.lt_of_lt_of_le h4 hb.size⟩
/-- the row, whole. -/
def RowH (w0 : World) (xs : List Value) (w : World) : Prop := w.heap[w0.heap.size + 3]? = some (.cells xs.toArray 37 (0, 0))
theorem RowH.below {w0 : World} {xs : List Value} {w w' : World} (h : RowH w0 xs w) {B : Nat} (hB : w0.heap.size + 3 < B) (hb : Below B w w') : RowH w0 xs w' := by
  unfold RowH at *
  rw [hb.block _ hB]; exact h
theorem RowH.own {w0 : World} {xs : List Value} {w : World} (h : RowH w0 xs w) {n : Nat} (hn : xs.length = n) (hm : n ≤ maxLen) : w.ownsRow (w0.heap.size + 3) 37 1 (.slice (some ⟨w0.heap.size + 3, 0, none⟩) n n) n xs :=
  ⟨by omega, .inr ⟨w0.heap.size + 3, n, xs.toArray, rfl, Nat.le_refl _, h, Nat.le_refl _, hm, by simp [hn], by rw [Nat.mul_one, ← hn]; simp⟩⟩
theorem RowH.of {w0 : World} {xs : List Value} {w : World} {n : Nat} (h : w.ownsRow (w0.heap.size + 3) 37 1 (.slice (some ⟨w0.heap.size + 3, 0, none⟩) n n) n xs) (hn : 0 < n) : RowH w0 xs w := by
  rcases h.2 with ⟨h', _⟩ | ⟨g', cap', cur, h', _, hg, _, _, hcs, htake⟩
  · simp at h'
  · simp only [Value.slice.injEq, Option.some.injEq, Addr.mk.injEq, and_true, true_and] at h'
    obtain ⟨rfl, rfl⟩ := h'
    unfold RowH
    rw [hg]
    have : cur = xs.toArray := by
      rw [← htake, List.take_of_length_le (by simpa using Nat.le_of_eq hcs)]
    rw [this]
theorem MvAt.new (w : World) (H W C : Int) (A : Option Addr) (n c : Nat) (U V : Int) {Wm w' : World} (hm : Wm = ((w.alloc (.cells #[.int .i64 H, .int .i64 W, .int .i64 C, .slice A n c] 26)).alloc (.cells #[.int .i64 U, .int .i64 V, .int .i64 C] 23)).alloc (.cells #[.int .i64 0, .int .i64 0, .int .i64 0, .slice none 0 0] 26)) (hb : Below (w.heap.size + 3) Wm w') (hs : w.heap.size + 3 < w'.heap.size) : MvAt w H W C A n c U V w' := by
  subst hm
  have s1 : (w.alloc (.cells #[.int .i64 H, .int .i64 W, .int .i64 C, .slice A n c] 26)).heap.size = w.heap.size + 1 := by simp
  have s2 : ((w.alloc (.cells #[.int .i64 H, .int .i64 W, .int .i64 C, .slice A n c] 26)).alloc (.cells #[.int .i64 U, .int .i64 V, .int .i64 C] 23)).heap.size = w.heap.size + 2 := by simp
  have b2 : Below (w.heap.size + 1) (w.alloc (.cells #[.int .i64 H, .int .i64 W, .int .i64 C, .slice A n c] 26)) ((w.alloc (.cells #[.int .i64 H, .int .i64 W, .int .i64 C, .slice A n c] 26)).alloc (.cells #[.int .i64 U, .int .i64 V, .int .i64 C] 23)) := (Below.refl _ _).alloc (by omega) _
  have b3 : Below (w.heap.size + 2) ((w.alloc (.cells #[.int .i64 H, .int .i64 W, .int .i64 C, .slice A n c] 26)).alloc (.cells #[.int .i64 U, .int .i64 V, .int .i64 C] 23)) (((w.alloc (.cells #[.int .i64 H, .int .i64 W, .int .i64 C, .slice A n c] 26)).alloc (.cells #[.int .i64 U, .int .i64 V, .int .i64 C] 23)).alloc (.cells #[.int .i64 0, .int .i64 0, .int .i64 0, .slice none 0 0] 26)) := (Below.refl _ _).alloc (by omega) _
  have k0 : BoxAt w.heap.size H W C A n c (w.alloc (.cells #[.int .i64 H, .int .i64 W, .int .i64 C, .slice A n c] 26)) := ⟨Kit.new_cell _ _ _ _, Kit.new_cell _ _ _ _, Kit.new_cell _ _ _ _, Kit.new_cell _ _ _ _⟩
  have k1 : ∀ j, ((w.alloc (.cells #[.int .i64 H, .int .i64 W, .int .i64 C, .slice A n c] 26)).alloc (.cells #[.int .i64 U, .int .i64 V, .int .i64 C] 23)).cell? ⟨w.heap.size + 1, j, none⟩ = (#[.int .i64 U, .int .i64 V, .int .i64 C] : Array Value)[j]? := fun j => by rw [← s1]; exact Kit.new_cell _ _ _ _
  have t1 : TwoAt w.heap.size H W C A n c U V ((w.alloc (.cells #[.int .i64 H, .int .i64 W, .int .i64 C, .slice A n c] 26)).alloc (.cells #[.int .i64 U, .int .i64 V, .int .i64 C] 23)) := ⟨k0.below (Nat.lt_succ_self _) b2, k1 0, k1 1, k1 2⟩
  refine ⟨(t1.below (by omega) b3).below (by omega) hb, (FreshT.new 26 _ (w.heap.size + 2) s2.symm).below (by omega) hb, ?_, hs⟩
  exact ((((Below.refl _ _).alloc (Nat.le_refl _) _).alloc (by simp) _).alloc (by simp; omega) _).trans (hb.mono (by omega))
theorem info_i8m : (Try.prog.info? 37).map (fun i => (i.zero, i.size, i.bytes)) = some (some (.int .i8 0), 1, 1) := by kernel_rfl
theorem ints_getDT {w : World} {B : Nat} {A : Option Addr} {k : IntKind} {zs : List Int} (h : Kit.Rd w B A (zs.map (.int k))) {j : Nat} (hj : j < zs.length) :
    ∃ b off, A = some ⟨b, off, none⟩ ∧ b < B ∧ ∀ i, i < zs.length → w.cell? ⟨b, off + i, none⟩ = some (.int k (zs.getD i 0)) := by
  obtain ⟨b, off, e, hb, hc⟩ := h.plain (by simp; omega)
  exact ⟨b, off, e, hb, fun i hi => hc i _ (by simp [List.getD_eq_getElem?_getD, List.getElem?_eq_getElem hi])⟩
theorem run_idx {H W C h w : Int} {a b d i j q : Nat} (hH : H = (a : Int)) (hW : W = (b : Int)) (hC : C = (d : Int)) (hi : i < a) (hj : j < b) (hd : 0 < d) (hs : shapeB H W C = true) (hh : h = (i : Int)) (hw : w = (j : Int)) (hq : (i * b + j) * d = q) : inB H W C h w 0 = true ∧ indexZ H W C h w 0 0 = (q : Int) := by
  subst hH hW hC hh hw
  have h1 : inB (a : Int) b d i j 0 = true := by
    unfold inB
    rw [hs]
    simp
    omega
  refine ⟨h1, ?_⟩
  rw [indexZ_yes h1, ← hq]
  simp
theorem group_in {a b d m i j : Nat} (hm : a * b * d = m) (hi : i < a) (hj : j < b) : (i * b + j) * d + d ≤ m ∧ i * b + j < a * b := by
  have e1 : (i + 1) * b ≤ a * b := Nat.mul_le_mul_right _ hi
  rw [Nat.add_mul, Nat.one_mul] at e1
  have e2 : (i * b + j + 1) * d ≤ a * b * d := Nat.mul_le_mul_right _ (by omega)
  rw [Nat.add_mul _ 1 d, Nat.one_mul] at e2
  omega
end Go.Proofs.Ytmjcjdgdpecpjaa.CTurn
