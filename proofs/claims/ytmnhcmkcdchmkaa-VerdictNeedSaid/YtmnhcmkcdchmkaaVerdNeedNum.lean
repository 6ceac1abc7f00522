/- Layer 30 (verdict): a lesser need, and biases that grow together: numbers, and how a round stands. Written by gen_verd4.py. -/
import Derived.Test.YtmnhcmkcdchmkaaVerdBoth
namespace Go.Proofs.Ytmnhcmkcdchmkaa.CVerd
open Go Go.ChangeShapes Go.WideShapes Go.ChangeAt Go.RowKit Go.Deep
open Plain CSat CShape CTensor CConv CDense
set_option linter.unusedVariables false
set_option maxRecDepth 100000

theorem shift_marg {F G : Nat → Int} {y : Int} {n : Nat} (h : ∀ i, i < n → G i = F i + y) (h2 : 2 ≤ n) : CRank.grF G (-1) n = CRank.grF F (-1) n ∧ CRank.margF G n = CRank.margF F n := by
  have hc : ∀ O, CRank.grF G O n = CRank.grF F O n := fun O => CRank.grF_congr (fun i j hi hj => by rw [h i hi, h j hj]; omega) n (Nat.le_refl _)
  refine ⟨hc _, ?_⟩
  obtain ⟨m, rfl⟩ : ∃ m, n = m + 1 := ⟨n - 1, by omega⟩
  obtain ⟨b, hb, hg, -⟩ := CRank.grF_best F m
  obtain ⟨q, hq, hgq⟩ := CRank.grF_second F (b := b) h2
  rw [CRank.margF_yes hg hgq, CRank.margF_yes ((hc _).trans hg) ((hc _).trans hgq), h b (by omega), h q (by omega)]
  omega
theorem wrap32_in {z : Int} (h1 : -2147483648 ≤ z) (h2 : z ≤ 2147483647) : IntKind.i32.wrap z = z := by rw [IntKind.wrap_i32]; omega
/-- biases that grow together. -/
def gsF (bs : List Int) (y : Int) (i : Nat) : Int := IntKind.i32.wrap (bs.getD i 0 + y)
theorem row_at (F : Nat → Int) {n k : Nat} (h : k < n) : (rowL F n).getD k 0 = F k := by
  rw [List.getD_eq_getElem?_getD]; simp [rowL, h]
theorem row_32 {F : Nat → Int} {n : Nat} (h : ∀ i, -2147483648 ≤ F i ∧ F i ≤ 2147483647) : ∀ q, -2147483648 ≤ (rowL F n).getD q 0 ∧ (rowL F n).getD q 0 ≤ 2147483647 := fun q => by
  by_cases hq : q < n
  · rw [row_at F hq]; exact h q
  · rw [List.getD_eq_getElem?_getD, List.getElem?_eq_none (by rw [rowL_len]; omega)]; simp
theorem line_shift {zs ws bs : List Int} {n m : Nat} {y : Int} (hn : n ≤ 1024) (hz : I8b zs) (hw : I8b ws) (y1 : 0 ≤ y) (y2 : y ≤ 65535) (hb : ∀ i, i < m → -1000000000 ≤ bs.getD i 0 ∧ bs.getD i 0 ≤ 1000000000) :
    ∀ i, i < m → lineF zs ws (rowL (gsF bs y) m) n 0 i = lineF zs ws bs n 0 i + y := fun i hi => by
  obtain ⟨b1, b2⟩ := hb i hi
  obtain ⟨p1, p2⟩ := psum_bd (G := termF zs ws 0 (i * n) 0) (b := 32640) (n := n) (fun j _ => termF_bd hz hw (by decide) (by decide))
  unfold lineF
  rw [row_at _ hi]
  unfold gsF
  rw [wrap32_in (z := bs.getD i 0 + y) (by omega) (by omega), wrap32_in (by omega) (by omega), wrap32_in (by omega) (by omega)]
  omega
theorem g32_succ (F : Nat → Int) (k : Nat) (x : Int) (h : F k = x) : I32v (rowL F k) ++ [.int .i32 x] = I32v (rowL F (k + 1)) := by
  simp [I32v, rowL, List.range_succ, h]
/-- how a round stands: the tensor's box, the exit's, the verdict's, the new exit's, whose biases stand so far. -/
def NeedAt (g0 g1 g2 g3 : Nat) (H W C : Int) (A : Option Addr) (n c : Nat) (WA BA : Option Addr) (nW cW nB cB : Nat) (D L : Int) (R M : Int) (v1 : Value) (b : Bool) (v : Value) (wd : World) : Prop :=
  BoxAt g0 H W C A n c wd ∧ HeadAt g1 WA BA nW cW nB cB D wd ∧ VerdAt g2 R M v1 b wd ∧
  (wd.cell? ⟨g3, 0, none⟩ = some (.slice WA nW cW) ∧ wd.cell? ⟨g3, 1, none⟩ = some v ∧ wd.cell? ⟨g3, 2, none⟩ = some (.int .i32 L) ∧ wd.frozen? ⟨g3, 1, none⟩ = false) ∧ (g0 < g3 ∧ g1 < g3 ∧ g2 < g3 ∧ g3 < wd.heap.size)
section
variable {g0 g1 g2 g3 : Nat} {H W C : Int} {A : Option Addr} {n c : Nat} {WA BA : Option Addr} {nW cW nB cB : Nat} {D L R M : Int} {v1 : Value} {b : Bool} {v : Value} {wd w' : World}
theorem NeedAt.below (h : NeedAt g0 g1 g2 g3 H W C A n c WA BA nW cW nB cB D L R M v1 b v wd) (hb : Below (g3 + 1) wd w') : NeedAt g0 g1 g2 g3 H W C A n c WA BA nW cW nB cB D L R M v1 b v w' := by
  obtain ⟨h1, h2, h3, ⟨h4, h5, h6, h7⟩, h8, h9, h10, h11⟩ := h
  exact ⟨h1.below (by omega) hb, h2.below (by omega) hb, h3.below (by omega) hb, ⟨(hb.cell (p := ⟨g3, 0, none⟩) (by simp)).trans h4, (hb.cell (p := ⟨g3, 1, none⟩) (by simp)).trans h5, (hb.cell (p := ⟨g3, 2, none⟩) (by simp)).trans h6, (hb.frozen (p := ⟨g3, 1, none⟩) (by simp)).trans h7⟩, h8, h9, h10, Nat.lt_of_lt_of_le h11 hb.size⟩
theorem NeedAt.store (h : NeedAt g0 g1 g2 g3 H W C A n c WA BA nW cW nB cB D L R M v1 b v wd) (u : Value) : NeedAt g0 g1 g2 g3 H W C A n c WA BA nW cW nB cB D L R M v1 b u (wd.setCell ⟨g3, 1, none⟩ u) := by
  obtain ⟨⟨a1, a2, a3, a4⟩, ⟨b1, b2, b3⟩, ⟨c1, c2, c3, c4⟩, ⟨h4, h5, h6, h7⟩, h8, h9, h10, h11⟩ := h
  have k : ∀ (b i : Nat), b ≠ g3 ∨ i ≠ 1 → (wd.setCell ⟨g3, 1, none⟩ u).cell? ⟨b, i, none⟩ = wd.cell? ⟨b, i, none⟩ := fun b i hne => World.cell?_setCell_other _ _ _ _ (fun e => by injection e; omega)
  refine ⟨⟨?_, ?_, ?_, ?_⟩, ⟨?_, ?_, ?_⟩, ⟨?_, ?_, ?_, ?_⟩, ⟨?_, World.cell?_setCell_same _ _ _ h5, ?_, ?_⟩, h8, h9, h10, by simpa using h11⟩
  all_goals first | (rw [k _ _ (by omega)]; assumption) | (rw [World.frozen?_setCell]; assumption)
end
def wNeed (w2 : World) (V : Array Value) (T U : TypeId) (WA : Option Addr) (nW cW : Nat) (L : Int) : World :=
  (w2.alloc (.cells V T)).alloc (.cells #[.slice WA nW cW, .slice none 0 0, .int .i32 L] U)
theorem wNeed_below (w2 : World) (V : Array Value) (T U : TypeId) (WA : Option Addr) (nW cW : Nat) (L : Int) : Below w2.heap.size w2 (wNeed w2 V T U WA nW cW L) ∧ Below (w2.heap.size + 1) (w2.alloc (.cells V T)) (wNeed w2 V T U WA nW cW L) := by
  unfold wNeed
  exact ⟨((Below.refl _ _).alloc (Nat.le_refl _) _).alloc (by simp) _, (Below.refl _ _).alloc (by simp) _⟩
theorem wNeed_at (w2 : World) (V : Array Value) (T U : TypeId) (WA : Option Addr) (nW cW : Nat) (L : Int) :
    (wNeed w2 V T U WA nW cW L).cell? ⟨w2.heap.size + 1, 0, none⟩ = some (.slice WA nW cW) ∧ (wNeed w2 V T U WA nW cW L).cell? ⟨w2.heap.size + 1, 1, none⟩ = some (.slice none 0 0) ∧ (wNeed w2 V T U WA nW cW L).cell? ⟨w2.heap.size + 1, 2, none⟩ = some (.int .i32 L) ∧
    (wNeed w2 V T U WA nW cW L).frozen? ⟨w2.heap.size + 1, 1, none⟩ = false ∧ w2.heap.size + 1 < (wNeed w2 V T U WA nW cW L).heap.size := by
  have s1 : (w2.alloc (.cells V T)).heap.size = w2.heap.size + 1 := by simp
  have cc : ∀ j, (wNeed w2 V T U WA nW cW L).cell? ⟨w2.heap.size + 1, j, none⟩ = #[Value.slice WA nW cW, .slice none 0 0, .int .i32 L][j]? := fun j => by
    rw [← s1]; exact Kit.new_cell _ _ _ _
  exact ⟨cc 0, cc 1, cc 2, by rw [← s1]; exact World.frozen?_alloc_at _ _ _ _ rfl, by simp [wNeed]⟩
end Go.Proofs.Ytmnhcmkcdchmkaa.CVerd
