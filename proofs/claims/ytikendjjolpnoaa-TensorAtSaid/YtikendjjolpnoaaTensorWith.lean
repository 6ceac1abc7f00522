/- Contracts of package tensor (layer 5): a tensor with another number. -/
import Derived.Test.YtikendjjolpnoaaTensorAt2
namespace Go.Proofs.Ytikendjjolpnoaa.CTensor
open Go Go.ChangeShapes Go.WideShapes Go.ChangeAt Go.RowKit
open Plain CSat CShape
set_option linter.unusedVariables false

theorem FreshT.set_other {B : Nat} {w : World} (h : FreshT B w) (a : Addr) (hne : a.block ≠ B) (u : Value) : FreshT B (w.setCell a u) := by
  have k : ∀ i, (w.setCell a u).cell? ⟨B, i, none⟩ = w.cell? ⟨B, i, none⟩ := fun i => World.cell?_setCell_other _ _ _ _ (fun e => hne (by have := congrArg Addr.block e; first | exact this | exact this.symm))
  have k2 : ∀ i, (w.setCell a u).frozen? ⟨B, i, none⟩ = w.frozen? ⟨B, i, none⟩ := fun i => World.frozen?_setCell _ _ _ _
  unfold FreshT
  simp only [k, k2]
  exact h
theorem FreshT.alloc {B : Nat} {w : World} (h : FreshT B w) (hB : B < w.heap.size) (o : Obj) : FreshT B (w.alloc o) := h.below hB ((Below.refl _ w).alloc (Nat.le_refl _) o)
theorem FreshT.range {B : Nat} {w : World} (h : FreshT B w) (x y z u : Value) : ((((w.setCell ⟨B, 0, none⟩ x).setCell ⟨B, 1, none⟩ y).setCell ⟨B, 2, none⟩ z).setCell ⟨B, 3, none⟩ u).rangeAt B 0 [x, y, z, u] := by
  obtain ⟨⟨h1, h2, h3, h4⟩, _⟩ := h
  have k : ∀ (wd : World) (i j : Nat) (v : Value), i ≠ j → (wd.setCell ⟨B, j, none⟩ v).cell? ⟨B, i, none⟩ = wd.cell? ⟨B, i, none⟩ := fun wd i j v hij => World.cell?_setCell_other _ _ _ _ (fun e => hij (by injection e with e1 e2 e3; first | exact e2 | exact e2.symm))
  have s : ∀ (wd : World) (j : Nat) (v o : Value), wd.cell? ⟨B, j, none⟩ = some o → (wd.setCell ⟨B, j, none⟩ v).cell? ⟨B, j, none⟩ = some v := fun wd j v o ho => World.cell?_setCell_same' _ _ _ (by rw [ho]; rfl)
  refine range_4 ?_ ?_ ?_ ?_
  · rw [k _ 0 3 _ (by decide), k _ 0 2 _ (by decide), k _ 0 1 _ (by decide)]; exact s _ _ _ _ h1
  · rw [k _ 1 3 _ (by decide), k _ 1 2 _ (by decide)]; exact s _ _ _ _ (by rw [k _ 1 0 _ (by decide)]; exact h2)
  · rw [k _ 2 3 _ (by decide)]; exact s _ _ _ _ (by rw [k _ 2 1 _ (by decide), k _ 2 0 _ (by decide)]; exact h3)
  · exact s _ _ _ _ (by rw [k _ 3 2 _ (by decide), k _ 3 1 _ (by decide), k _ 3 0 _ (by decide)]; exact h4)
theorem range_alloc {B : Nat} {w : World} {xs : List Value} (h : w.rangeAt B 0 xs) (hB : B < w.heap.size) (o : Obj) : (w.alloc o).rangeAt B 0 xs := fun j v hj => by
  rw [World.cell?_alloc_lt _ _ _ hB]
  exact h j v hj
theorem with_no (H W C : Int) (A : Option Addr) (n k : Nat) (h v c x : Int) (hb : placeB H W C n h v c = false) (w : World) :
    Calls Try.prog 19 #[.agg #[.int .i64 H, .int .i64 W, .int .i64 C, .slice A n k], .int .i64 h, .int .i64 v, .int .i64 c, .int .i8 x] w fun e w' => e = .returned (.tuple #[.agg #[.int .i64 0, .int .i64 0, .int .i64 0, .slice none 0 0], .bool false]) ∧ Below w.heap.size w w' := by
  have HB0 := Lib.hid hb
  clear hb
  go_enter Try.func19, Try.ntmps19
  go_wp2_with (go_at_call 44; ((with_reducible refine (pos_no H W C A n k h v c HB0.out _).mono ?_); (rintro e w1 ⟨rfl, hb⟩; obtain ⟨hc, hf⟩ := Kit.bcell hb; have hz : w.heap.size + 1 < w1.heap.size := (by have := hb.size; simp at this; omega); have HB := Lib.hid (show Below w.heap.size w w1 from Below.trans (by go_grown) (hb.mono (by simp; omega))))))
  refine bodyPost_ret (Kit.results_ct rfl _ _ (w.heap.size + 1) 0 [.int .i64 0, .int .i64 0, .int .i64 0, .slice none 0 0] _ rfl (range_4 (by go_cell) (by go_cell) (by go_cell) (by go_cell)) Try.underlying28 rfl (by kernel_rfl)) rfl ?_
  exact ⟨rfl, ((((HB.out.setCell (p := ⟨w.heap.size + 1, 0, none⟩) (by simp) _).setCell (p := ⟨w.heap.size + 1, 1, none⟩) (by simp) _).setCell (p := ⟨w.heap.size + 1, 2, none⟩) (by simp) _).setCell (p := ⟨w.heap.size + 1, 3, none⟩) (by simp) _)⟩

def Withed (w : World) (H W C : Int) (n : Nat) (zs : List Int) (e : Ending) (w' : World) : Prop :=
  ∃ v, e = .returned (.tuple #[.agg #[.int .i64 H, .int .i64 W, .int .i64 C, v], .bool true]) ∧ w'.ownsRow w.heap.size 25 1 v n (I8s zs) ∧ Below w.heap.size w w'
set_option maxHeartbeats 2000000 in
theorem with_yes (H W C : Int) (A : Option Addr) (zs : List Int) (n k : Nat) (hn : zs.length = n) (hk9 : n ≤ 1000000) (h v c x : Int) (p : Nat) (hb : placeB H W C n h v c = true) (hp : (h * W + v) * C + c = p) (hpn : p < n) {B : Nat} (w : World) (hB : B ≤ w.heap.size) (hr : Kit.Rd w B A (zs.map (.int .i8))) :
    Calls Try.prog 19 #[.agg #[.int .i64 H, .int .i64 W, .int .i64 C, .slice A n k], .int .i64 h, .int .i64 v, .int .i64 c, .int .i8 x] w (Withed w H W C n (zs.set p x)) := by
  have HB0 := Lib.hid hb
  have HP := Lib.hid hp
  have HR := Lib.hid hr
  have HN := Lib.hid hn
  have hpI : (p : Int) < (n : Int) := by omega
  have hpI0 : (0 : Int) ≤ (p : Int) := by omega
  clear hb hp hr hn
  go_enter Try.func19, Try.ntmps19
  go_wp2_with (first
    | (go_at_call 44; ((with_reducible refine (pos_yes H W C A n k h v c p HB0.out HP.out _).mono ?_); (rintro e w1 ⟨rfl, hb⟩; obtain ⟨hc, hf⟩ := Kit.bcell hb; have hz : w.heap.size + 1 < w1.heap.size := (by have := hb.size; simp at this; omega); have hz0 : w.heap.size < w1.heap.size := (by omega); have HF1 := Lib.hid (FreshT.below (B := w.heap.size + 1) (FreshT.new _ _ _ (by simp)) (by simp) hb); have HB := Lib.hid (show Below w.heap.size w w1 from Below.trans (by go_grown) (hb.mono (by simp; omega))))))
    | (go_at_call 39; have hrd := HR.out.below (HB.out.mono hB); ((with_reducible refine (clone_to H W C A zs n k HN.out hk9 (B := B) _ (by omega) hrd).mono ?_); (rintro e w2 ⟨v2, rfl, ho2, hb2⟩; obtain ⟨hc2, hf2⟩ := Kit.bcell hb2; obtain ⟨g, c2, rfl, hgb, hnc, _, hrg⟩ := Kit.own_form ho2 (by omega); have hgl := Kit.block_lt_of_own ho2; have hcg : w2.cell? ⟨g, p, none⟩ = some (.int .i8 (zs[p]'(by have := HN.out; omega))) := (by have h1 := ho2.cellAt p (by omega); rw [h1]; simp [I8s]); have hfg := ho2.frozenAt p; have hz2 : w1.heap.size ≤ w2.heap.size := hb2.size; have g1 : ¬ g = w2.heap.size := (by omega); have g2 : ¬ w2.heap.size = g := (by omega); have g3 : ¬ g = w.heap.size + 1 := (by omega); have g4 : ¬ w.heap.size + 1 = g := (by omega); have g5 : ¬ w.heap.size + 1 = w2.heap.size := (by omega); have g6 : ¬ w2.heap.size = w.heap.size + 1 := (by omega); have g7 : w.heap.size + 1 < w2.heap.size := (by omega); have HO := Lib.hid ho2; have HF2 := Lib.hid (HF1.out.below hz hb2); have HB2 := Lib.hid (HB.out.trans (hb2.mono (by omega))); clear hrd ho2 hrg))))
  clear hc hf hc2 hf2 hcg hfg hb hb2 hpI hpI0
  have HRG := range_alloc ((HF2.out.set_other ⟨g, p, none⟩ g3 (.int .i8 x)).range (.int .i64 H) (.int .i64 W) (.int .i64 C) (.slice (some ⟨g, 0, none⟩) n c2)) (by simp; omega) (.cells #[.int .i64 H, .int .i64 W, .int .i64 C, .slice (some ⟨g, 0, none⟩) n c2] 28)
  refine bodyPost_ret (Kit.results_ct rfl _ _ (w.heap.size + 1) 0 [.int .i64 H, .int .i64 W, .int .i64 C, .slice (some ⟨g, 0, none⟩) n c2] _ rfl HRG Try.underlying28 rfl (by kernel_rfl)) rfl ?_
  have hset : (I8s zs).set p (.int .i8 x) = I8s (zs.set p x) := by simp [I8s, List.map_set]
  have hst := (HO.out.stored p (.int .i8 x)).1
  rw [hset] at hst
  have k1 : w.heap.size + 1 < w1.heap.size := hz
  have k2 : w.heap.size ≤ w1.heap.size := by omega
  have k3 : w.heap.size ≤ g := by omega
  have k4 : w.heap.size ≤ w2.heap.size := by omega
  have k5 : w.heap.size ≤ w.heap.size + 1 := by omega
  refine ⟨_, rfl, Kit.own_base ((own_set (own_set (own_set (own_set hst _ _ k1) _ _ k1) _ _ k1) _ _ k1).alloc _) k2, ?_⟩
  exact (((((HB2.out.setCell (p := ⟨g, p, none⟩) k3 _).setCell (p := ⟨w.heap.size + 1, 0, none⟩) k5 _).setCell (p := ⟨w.heap.size + 1, 1, none⟩) k5 _).setCell (p := ⟨w.heap.size + 1, 2, none⟩) k5 _).setCell (p := ⟨w.heap.size + 1, 3, none⟩) k5 _).alloc (by simp; omega) _
end Go.Proofs.Ytikendjjolpnoaa.CTensor
