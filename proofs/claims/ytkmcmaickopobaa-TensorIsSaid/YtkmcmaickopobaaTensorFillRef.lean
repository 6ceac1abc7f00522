/- Contracts of layer 5: the document's own tensor of one number. -/
import Derived.Test.YtkmcmaickopobaaTensorFill
namespace Go.Proofs.Ytkmcmaickopobaa.CTensor
open Go Go.ChangeShapes Go.WideShapes Go.ChangeAt Go.RowKit
open Plain CSat CShape
set_option linter.unusedVariables false

/-- how a round of Fill stands: the shape's box, the result's block as it was made, the tensor's block with its list. -/
def FillAt (w0 : World) (g : Nat) (H W C : Int) (v : Value) (wd : World) : Prop :=
  ShapeAt g H W C wd ∧ FreshT (g + 1) wd ∧ (wd.cell? ⟨g + 2, 0, none⟩ = some (.int .i64 H) ∧ wd.cell? ⟨g + 2, 1, none⟩ = some (.int .i64 W) ∧ wd.cell? ⟨g + 2, 2, none⟩ = some (.int .i64 C) ∧ wd.cell? ⟨g + 2, 3, none⟩ = some v ∧ wd.frozen? ⟨g + 2, 3, none⟩ = false) ∧
  Below g w0 wd ∧ g + 3 ≤ wd.heap.size
theorem FillAt.below {w0 : World} {g : Nat} {H W C : Int} {v : Value} {wd w' : World} (h : FillAt w0 g H W C v wd) (hb : Below (g + 3) wd w') : FillAt w0 g H W C v w' := by
  obtain ⟨h1, h2, ⟨h3, h4, h5, h6, h7⟩, h8, h9⟩ := h
  exact ⟨h1.below (by omega) hb, h2.below (by omega) hb, ⟨(hb.cell (p := ⟨g + 2, 0, none⟩) (by simp)).trans h3, (hb.cell (p := ⟨g + 2, 1, none⟩) (by simp)).trans h4, (hb.cell (p := ⟨g + 2, 2, none⟩) (by simp)).trans h5, (hb.cell (p := ⟨g + 2, 3, none⟩) (by simp)).trans h6, (hb.frozen (p := ⟨g + 2, 3, none⟩) (by simp)).trans h7⟩,
    h8.trans (hb.mono (by omega)), Nat.le_trans h9 hb.size⟩
theorem FillAt.store {w0 : World} {g : Nat} {H W C : Int} {v : Value} {wd : World} (h : FillAt w0 g H W C v wd) (u : Value) : FillAt w0 g H W C u (wd.setCell ⟨g + 2, 3, none⟩ u) := by
  obtain ⟨⟨a1, a2, a3⟩, ⟨⟨f1, f2, f3, f4⟩, f5, f6, f7, f8⟩, ⟨h3, h4, h5, h6, h7⟩, h8, h9⟩ := h
  have k : ∀ (b i : Nat), b ≠ g + 2 ∨ i ≠ 3 → (wd.setCell ⟨g + 2, 3, none⟩ u).cell? ⟨b, i, none⟩ = wd.cell? ⟨b, i, none⟩ := fun b i hne => World.cell?_setCell_other _ _ _ _ (fun e => by injection e; omega)
  have fz : ∀ (b i : Nat), (wd.setCell ⟨g + 2, 3, none⟩ u).frozen? ⟨b, i, none⟩ = wd.frozen? ⟨b, i, none⟩ := fun b i => World.frozen?_setCell _ _ _ _
  refine ⟨⟨?_, ?_, ?_⟩, ⟨⟨?_, ?_, ?_, ?_⟩, ?_, ?_, ?_, ?_⟩, ⟨?_, ?_, ?_, World.cell?_setCell_same _ _ _ h6, ?_⟩, h8.setCell (p := ⟨g + 2, 3, none⟩) (by simp) _, by simpa using h9⟩
  all_goals first | (rw [k _ _ (by omega)]; assumption) | (rw [fz]; assumption)
theorem FillAt.new (w : World) (H W C : Int) : FillAt w w.heap.size H W C (.slice none 0 0) (((w.alloc (.cells #[.int .i64 H, .int .i64 W, .int .i64 C] 23)).alloc (.cells #[.int .i64 0, .int .i64 0, .int .i64 0, .slice none 0 0] 28)).alloc (.cells #[.int .i64 H, .int .i64 W, .int .i64 C, .slice none 0 0] 28)) := by
  have h1 := (ShapeAt.new H W C 23 w).below (Nat.lt_succ_self _) ((Below.refl _ _).alloc (by simp) (.cells #[.int .i64 0, .int .i64 0, .int .i64 0, .slice none 0 0] 28))
  have h2 := FreshT.new 28 (w.alloc (.cells #[.int .i64 H, .int .i64 W, .int .i64 C] 23)) (w.heap.size + 1) (by simp)
  have hb : Below (w.heap.size + 2) ((w.alloc (.cells #[.int .i64 H, .int .i64 W, .int .i64 C] 23)).alloc (.cells #[.int .i64 0, .int .i64 0, .int .i64 0, .slice none 0 0] 28)) (((w.alloc (.cells #[.int .i64 H, .int .i64 W, .int .i64 C] 23)).alloc (.cells #[.int .i64 0, .int .i64 0, .int .i64 0, .slice none 0 0] 28)).alloc (.cells #[.int .i64 H, .int .i64 W, .int .i64 C, .slice none 0 0] 28)) := (Below.refl _ _).alloc (by simp) _
  have e : ((w.alloc (.cells #[.int .i64 H, .int .i64 W, .int .i64 C] 23)).alloc (.cells #[.int .i64 0, .int .i64 0, .int .i64 0, .slice none 0 0] 28)).heap.size = w.heap.size + 2 := by simp
  have c : ∀ j, (((w.alloc (.cells #[.int .i64 H, .int .i64 W, .int .i64 C] 23)).alloc (.cells #[.int .i64 0, .int .i64 0, .int .i64 0, .slice none 0 0] 28)).alloc (.cells #[.int .i64 H, .int .i64 W, .int .i64 C, .slice none 0 0] 28)).cell? ⟨w.heap.size + 2, j, none⟩ = #[.int .i64 H, .int .i64 W, .int .i64 C, .slice none 0 0][j]? := fun j => by
    rw [← e]; exact Kit.new_cell _ _ _ _
  refine ⟨h1.below (by omega) hb, h2.below (by omega) hb, ⟨c 0, c 1, c 2, c 3, ?_⟩, (((Below.refl _ _).alloc (Nat.le_refl _) _).alloc (by simp) _).alloc (by simp; omega) _, by simp⟩
  rw [← e]; exact World.frozen?_alloc_at _ _ _ _ rfl
set_option maxHeartbeats 2000000 in
theorem refFill_yes (H W C x : Int) (n : Nat) (hm : elemsZ H W C = (n : Int)) (hl : n ≤ 1000000) (w : World) :
    Calls Try.prog 29 #[.agg #[.int .i64 H, .int .i64 W, .int .i64 C], .int .i8 x] w (Cloned w H W C n (List.replicate n x)) := by
  have HM := Lib.hid hm
  clear hm
  obtain ⟨i0, hi0, hi1, hi2, hi3⟩ := info_parts info_i8
  go_enter Try.func29, Try.ntmps29
  go_wp2_with fail
  have HW := Lib.hid (FillAt.new w H W C)
  have HO : Hid ((((w.alloc (.cells #[.int .i64 H, .int .i64 W, .int .i64 C] 23)).alloc (.cells #[.int .i64 0, .int .i64 0, .int .i64 0, .slice none 0 0] 28)).alloc (.cells #[.int .i64 H, .int .i64 W, .int .i64 C, .slice none 0 0] 28)).ownsRow (w.heap.size + 3) 25 1 (.slice none 0 0) 0 (I8s (List.replicate 0 x))) := Lib.hid ⟨by simp [I8s], .inl ⟨rfl, rfl⟩⟩
  rw [show w.heap.size + 1 + 1 = w.heap.size + 2 from rfl]
  generalize ((w.alloc (.cells #[.int .i64 H, .int .i64 W, .int .i64 C] 23)).alloc (.cells #[.int .i64 0, .int .i64 0, .int .i64 0, .slice none 0 0] 28)).alloc (.cells #[.int .i64 H, .int .i64 W, .int .i64 C, .slice none 0 0] 28) = W1 at HW HO ⊢
  go_loopw [6] (fun i wr => ∃ (k : Nat) (v : Value), k ≤ n ∧ i = .int .i64 k ∧ Hid (FillAt w w.heap.size H W C v wr) ∧ Hid (wr.ownsRow (w.heap.size + 3) 25 1 v k (I8s (List.replicate k x)))) (fun i _ => n - (intOf i).toNat)
  case atStart => exact ⟨0, _, Nat.zero_le _, rfl, HW, HO⟩
  case round =>
    obtain ⟨k, v, hk, rfl, hF, hO⟩ := hrel
    clear HW HO
    obtain ⟨Av, cv, rfl, -, -, -⟩ := Kit.own_rd hO.out
    obtain ⟨⟨a1, a2, a3⟩, -, ⟨-, -, -, h6, h7⟩, -, hz⟩ := hF.out
    by_cases hlt : k < n
    · have hkI : (k : Int) < (n : Int) := by omega
      go_wp2_with (first
        | (go_at_call 12
           with_reducible refine (refElems_to H W C n HM.out _).mono ?_
           rintro e w1 ⟨rfl, hb⟩
           have HF1 := Lib.hid (hF.out.below (hb.mono (by omega)))
           have HO1 := Lib.hid (Kit.own_below hO.out hb)
           clear hb a1 a2 a3 h6 h7
           obtain ⟨-, -, ⟨-, -, -, h6, h7⟩, -, hz1⟩ := HF1.out)
        | (at_builtin
           refine Kit.wpList_append_rd _ rfl (.tmp 16) (.tmp 18) _ rfl (w.heap.size + 3) 25 i0 (.int .i8 0) 1 1 Try.underlying24 hi0 hi1 hi2 hi3 rfl (by decide) _ k (I8s (List.replicate k x)) rfl (HO1.out.alloc _) _ _ 1 1 [.int .i8 x] rfl rfl (Kit.Rd.new _ _ _ (Nat.lt_succ_self _)) (Kit.ints_one .i8 [x]) (by unfold maxLen; omega) (by omega) (by simp; omega) ?_
           intro v2 w2 hown2 hg2 hat2
           obtain ⟨A2, c2, rfl, -, -, -⟩ := Kit.own_rd hown2
           have hB : Below (w.heap.size + 3) w1 w2 := ((Below.refl _ _).alloc hz1 _).grown hg2 (by simp; omega) (fun q hq => Kit.own_block_ge HO1.out q hq)
           have HF2 := Lib.hid (HF1.out.below hB)
           have HF3 := Lib.hid (HF2.out.store (.slice A2 (k + 1) c2))
           have HO3 : Hid ((w2.setCell ⟨w.heap.size + 2, 3, none⟩ (.slice A2 (k + 1) c2)).ownsRow (w.heap.size + 3) 25 1 (.slice A2 (k + 1) c2) (k + 1) (I8s (List.replicate (k + 1) x))) := by
             have e : I8s (List.replicate k x) ++ [.int .i8 x] = I8s (List.replicate (k + 1) x) := by simp [I8s, List.replicate_succ']
             rw [e] at hown2
             exact Lib.hid (own_set hown2 _ _ (by simp))
           clear hown2 hg2 hat2 hB h6 h7
           obtain ⟨-, -, ⟨-, -, -, h6, h7⟩, -, -⟩ := HF2.out))
      go_roundw
      case rel => exact ⟨k + 1, _, by omega, by go_num, HF3, HO3⟩
      case measure => simp [intOf]; omega
    · obtain rfl : k = n := by omega
      go_wp2_with (
           go_at_call 12
           with_reducible refine (refElems_to H W C k HM.out _).mono ?_
           rintro e w1 ⟨rfl, hb⟩
           have HF1 := Lib.hid (hF.out.below (hb.mono (by omega)))
           have HO1 := Lib.hid (Kit.own_below hO.out hb)
           clear hb a1 a2 a3 h6 h7
           obtain ⟨-, ⟨⟨z0, z1, z2, z3⟩, z4, z5, z6, z7⟩, ⟨h3, h4, h5, h6, h7⟩, -, hz1⟩ := HF1.out)
      refine bodyPost_ret (Kit.results_c rfl _ _ (w.heap.size + 1) 0 [.int .i64 H, .int .i64 W, .int .i64 C, .slice Av k cv] _ rfl (range_4 (by go_cell) (by go_cell) (by go_cell) (by go_cell)) Try.underlying28 rfl (by kernel_rfl)) rfl ?_
      refine ⟨_, rfl, Kit.own_base (own_set (own_set (own_set (own_set HO1.out _ _ ?_) _ _ ?_) _ _ ?_) _ _ ?_) ?_, ?_⟩
      any_goals (first | omega | (simp; done) | (simp; omega))
      exact (((HF1.out.2.2.2.1.setCell (p := ⟨w.heap.size + 1, 0, none⟩) (by simp) _).setCell (p := ⟨w.heap.size + 1, 1, none⟩) (by simp) _).setCell (p := ⟨w.heap.size + 1, 2, none⟩) (by simp) _).setCell (p := ⟨w.heap.size + 1, 3, none⟩) (by simp) _
end Go.Proofs.Ytkmcmaickopobaa.CTensor
