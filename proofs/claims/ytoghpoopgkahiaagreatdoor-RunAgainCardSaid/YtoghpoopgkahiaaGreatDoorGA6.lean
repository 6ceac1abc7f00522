/- Texts of this seat, one behind the other: FourTurn, WheelMem, GemmHold. -/
import Derived.Test.YtoghpoopgkahiaaGreatDoorRows
import Derived.Test.YtoghpoopgkahiaaGreatDoorChecked
import Derived.Handy
import Derived.Deep.MidRow
import Derived.Test.YtoghpoopgkahiaaGreatDoorGA1
import Derived.Test.YtoghpoopgkahiaaGreatDoorGA3
section
namespace Go.Proofs.YtoghpoopgkahiaaGreatDoor.CFour
open Go Go.ChangeShapes Go.WideShapes Go.ChangeAt Go.RowKit
open FloatNum
set_option linter.unusedVariables false
/-- four cells of block g, none frozen. -/
def Four (g : Nat) (S : Nat → Value) (w : World) : Prop := (∀ i, i < 4 → w.cell? ⟨g, i, none⟩ = some (S i)) ∧ (∀ i, i < 4 → w.frozen? ⟨g, i, none⟩ = false) ∧ g < w.heap.size
theorem Four.below {g : Nat} {S : Nat → Value} {w w' : World} (h : Four g S w) {B : Nat} (hb : Below B w w') (hg : g < B) : Four g S w' := by
  refine ⟨fun i hi => ?_, fun i hi => ?_, Nat.lt_of_lt_of_le h.2.2 hb.size⟩
  · rw [hb.cell (p := ⟨g, i, none⟩) hg]; exact h.1 i hi
  · rw [hb.frozen (p := ⟨g, i, none⟩) hg]; exact h.2.1 i hi
theorem Four.drew {g : Nat} {S : Nat → Value} {w : World} (h : Four g S w) : Four g S w.drew := h
theorem Four.set {g : Nat} {S : Nat → Value} {w : World} (h : Four g S w) {k : Nat} (hk : k < 4) (v : Value) : Four g (fun i => if i = k then v else S i) (w.setCell ⟨g, k, none⟩ v) := by
  refine ⟨fun i hi => ?_, fun i hi => ?_, ?_⟩
  · by_cases e : i = k
    · subst e
      simp only [if_true]
      exact World.cell?_setCell_same' _ _ _ (by rw [h.1 i hi]; rfl)
    · simp only [if_neg e]
      rw [World.cell?_setCell_other _ _ _ _ (by intro q; cases q; exact e rfl)]
      exact h.1 i hi
  · rw [World.frozen?_setCell]; exact h.2.1 i hi
  · simp; exact h.2.2
theorem Four.other {g g' k : Nat} {S : Nat → Value} {w : World} (h : Four g S w) (v : Value) (hg : g ≠ g') : Four g S (w.setCell ⟨g', k, none⟩ v) := by
  refine ⟨fun i hi => ?_, fun i hi => ?_, ?_⟩
  · rw [World.cell?_setCell_other _ _ _ _ (by intro q; cases q; exact hg rfl)]
    exact h.1 i hi
  · rw [World.frozen?_setCell]; exact h.2.1 i hi
  · simp; exact h.2.2
theorem Four.new (w : World) (v : Value) (T : TypeId) : Four w.heap.size (fun _ => v) (w.alloc (.cells #[v, v, v, v] T)) := by
  refine ⟨fun i hi => ?_, fun i hi => ?_, by simp⟩
  · rcases i with _ | _ | _ | _ | i
    all_goals first | (exact absurd hi (by omega)) | go_cell
  · rcases i with _ | _ | _ | _ | i
    all_goals first | (exact absurd hi (by omega)) | go_cell
theorem Four.box (w : World) (c : Nat → Value) (T : TypeId) : Four w.heap.size c (w.alloc (.cells #[c 0, c 1, c 2, c 3] T)) := by
  refine ⟨fun i hi => ?_, fun i hi => ?_, by simp⟩
  · rcases i with _ | _ | _ | _ | i
    all_goals first | (exact absurd hi (by omega)) | go_cell
  · rcases i with _ | _ | _ | _ | i
    all_goals first | (exact absurd hi (by omega)) | go_cell
theorem lt4 {k : Nat} (h : k < 4) : k = 0 ∨ k = 1 ∨ k = 2 ∨ k = 3 := by omega
abbrev agg4 (S : Nat → Value) : Value := .agg #[S 0, S 1, S 2, S 3]
def z0 : Value := .complex .f64 0 0
theorem ix0 (c : Nat → Value) (w : World) : (Instr.index 179 (agg4 c) (.int .i64 0)).run Tryz.prog w = .ok (c 0) w := by kernel_rfl
theorem ix1 (c : Nat → Value) (w : World) : (Instr.index 179 (agg4 c) (.int .i64 1)).run Tryz.prog w = .ok (c 1) w := by kernel_rfl
theorem ix2 (c : Nat → Value) (w : World) : (Instr.index 179 (agg4 c) (.int .i64 2)).run Tryz.prog w = .ok (c 2) w := by kernel_rfl
theorem ix3 (c : Nat → Value) (w : World) : (Instr.index 179 (agg4 c) (.int .i64 3)).run Tryz.prog w = .ok (c 3) w := by kernel_rfl
theorem st_c (x y : Nat) : ∀ (w : World) (a : Addr) (m : Mode), (store a (.complex .f64 x y) m).run Tryz.prog w = stored Tryz.prog w a (.complex .f64 x y) m := fun w a m => run_store _ w a _ m rfl
theorem range_4 {w : World} {b : Nat} {x y z u : Value} (h0 : w.cell? ⟨b, 0, none⟩ = some x) (h1 : w.cell? ⟨b, 1, none⟩ = some y) (h2 : w.cell? ⟨b, 2, none⟩ = some z) (h3 : w.cell? ⟨b, 3, none⟩ = some u) : w.rangeAt b 0 [x, y, z, u] := by
  intro j v hj
  match j, hj with
  | 0, hj => simpa [← hj] using h0
  | 1, hj => simpa [← hj] using h1
  | 2, hj => simpa [← hj] using h2
  | 3, hj => simpa [← hj] using h3
set_option maxHeartbeats 4000000 in
theorem turned_to (c : Nat → Value) (p : Nat → G) (q : Value) (e : Int) (he : e = 1 ∨ e = -1) (B : Nat) (hB : B ≤ 2 ^ 48) (hc : ∀ i, i < 4 → IsC (c i) (p i)) (hp : ∀ i, Bd B (p i)) (hq : IsC q (0, e)) (w : World) :
    Calls Tryz.prog 158 #[agg4 c, q] w fun e' w' => (∃ S, e' = .returned (agg4 S) ∧ ∀ i, i < 4 → IsC (S i) (gpart p e i 4)) ∧ Below w.heap.size w w' := by
  have HC := Lib.hid hc
  have HP := Lib.hid hp
  have HQ := Lib.hid hq
  have HE := Lib.hid he
  have HBB := Lib.hid hB
  clear hc hp hq he hB
  go_enter Tryz.func158, Tryz.ntmps158
  go_wp2_with fail
  go_loopw [6, 11] (fun s u wr => ∃ (k : Nat) (S : Nat → Value), k ≤ 4 ∧ u = .int .i64 k ∧ Hid (IsC s (upow e k)) ∧ Hid (SumsR p e k 0 S) ∧ Hid (Four (w.heap.size + 1 + 1) S wr) ∧ Hid (Four (w.heap.size + 1) (fun _ => z0) wr) ∧ Hid (Four w.heap.size c wr) ∧ Hid (Below w.heap.size w wr)) (fun _ u _ => 4 - (intOf u).toNat)
  case atStart =>
    have h2 := Four.new ((w.alloc (.cells #[c 0, c 1, c 2, c 3] 179)).alloc (.cells #[z0, z0, z0, z0] 179)) z0 179
    have h1 := (Four.new (w.alloc (.cells #[c 0, c 1, c 2, c 3] 179)) z0 179).below ((Below.refl _ _).alloc (Nat.le_refl _) (.cells #[z0, z0, z0, z0] 179)) (by simp)
    have h0 := (Four.box w c 179).below (((Below.refl _ _).alloc (Nat.le_refl _) (.cells #[z0, z0, z0, z0] 179)).alloc (by simp) (.cells #[z0, z0, z0, z0] 179)) (by simp)
    have e2 : ((w.alloc (.cells #[c 0, c 1, c 2, c 3] 179)).alloc (.cells #[z0, z0, z0, z0] 179)).heap.size = w.heap.size + 1 + 1 := by simp
    have e1 : (w.alloc (.cells #[c 0, c 1, c 2, c 3] 179)).heap.size = w.heap.size + 1 := by simp
    rw [e2] at h2
    rw [e1] at h1
    exact ⟨0, fun _ => z0, by omega, rfl, Lib.hid ⟨_, _, rfl, isF_one, isF_zero⟩, Lib.hid (SumsR.start p e), Lib.hid h2, Lib.hid h1, Lib.hid h0, Lib.hid ((((Below.refl _ _).alloc (Nat.le_refl _) _).alloc (by simp) _).alloc (by simp; omega) _)⟩
  case round =>
    obtain ⟨k, S, hk, rfl, hs, hS, hF, hR, hX, hBw⟩ := hrel
    by_cases hlt : k < 4
    · obtain ⟨s2, hs1, hs2⟩ := IsC.mul (P := Tryz.prog) hs.out HQ.out (upow_u HE.out k).bd (B := 1) (by rcases HE.out with rfl | rfl <;> simp [Bd]) (by decide) (by decide) (by decide)
      rw [← upow_one, upow_add] at hs2
      have HS2 := Lib.hid hs2
      clear hs2
      have c0 := hX.out.1 0 (by omega)
      have c1 := hX.out.1 1 (by omega)
      have c2 := hX.out.1 2 (by omega)
      have c3 := hX.out.1 3 (by omega)
      go_wp2
      clear c0 c1 c2 c3
      go_loopw [8, 15] (fun t u wr => ∃ (m : Nat) (S : Nat → Value), m ≤ 4 ∧ u = .int .i64 m ∧ Hid (IsC t (upow e (k * m))) ∧ Hid (SumsR p e k m S) ∧ Hid (Four (w.heap.size + 1 + 1) S wr) ∧ Hid (Four (w.heap.size + 1) (fun _ => z0) wr) ∧ Hid (Four w.heap.size c wr) ∧ Hid (Below w.heap.size w wr)) (fun _ u _ => 4 - (intOf u).toNat)
      case atStart => exact ⟨0, S, by omega, rfl, Lib.hid ⟨_, _, rfl, isF_one, isF_zero⟩, hS, hF, hR, hX, hBw⟩
      case round =>
        obtain ⟨m, S1, hm, rfl, ht, hT, hG, hR1, hX1, hB1⟩ := hrel
        by_cases hlm : m < 4
        · obtain ⟨v, hv1, hv2⟩ := IsC.mul (P := Tryz.prog) (HC.out m hlm) ht.out (HP.out m) (upow_u HE.out (k * m)).bd (Nat.lt_of_le_of_lt HBB.out (by decide)) (by decide) (by have := HBB.out; omega)
          obtain ⟨x, hx1, hx2⟩ := IsC.add (P := Tryz.prog) (hT.out.at hlt) hv2 (gpart_bd HE.out HP.out k m) ((HP.out m).turn (upow_u HE.out (k * m))) (by have := HBB.out; have : m * B ≤ 3 * B := Nat.mul_le_mul_right _ (by omega); omega)
          obtain ⟨y, hy1, hy2⟩ := IsC.mul (P := Tryz.prog) ht.out hs.out (upow_u HE.out (k * m)).bd (upow_u HE.out k).bd (by decide) (by decide) (by decide)
          rw [upow_add] at hy2
          have HY : Hid (IsC y (upow e (k * (m + 1)))) := Lib.hid hy2
          have HT := Lib.hid (hT.out.step hx2)
          have HG := Lib.hid (hG.out.set hlt x)
          have HR1 := Lib.hid (hR1.out.other (g' := w.heap.size + 1 + 1) (k := k) x (by omega))
          have HX1 := Lib.hid (hX1.out.other (g' := w.heap.size + 1 + 1) (k := k) x (by omega))
          have HB1 := Lib.hid (hB1.out.setCell (p := ⟨w.heap.size + 1 + 1, k, none⟩) (by show w.heap.size ≤ w.heap.size + 1 + 1; omega) x)
          obtain ⟨xa, xb, rfl, -⟩ := hx2
          clear hy2 hv2
          have c0 := hG.out.1 0 (by omega)
          have c1 := hG.out.1 1 (by omega)
          have c2 := hG.out.1 2 (by omega)
          have c3 := hG.out.1 3 (by omega)
          have f0 := hG.out.2.1 0 (by omega)
          have f1 := hG.out.2.1 1 (by omega)
          have f2 := hG.out.2.1 2 (by omega)
          have f3 := hG.out.2.1 3 (by omega)
          have hst := st_c xa xb
          have x0 := ix0 c
          have x1 := ix1 c
          have x2 := ix2 c
          have x3 := ix3 c
          obtain rfl | rfl | rfl | rfl := lt4 hlt <;> obtain rfl | rfl | rfl | rfl := lt4 hlm
          all_goals
            go_wp2
            go_roundw
            case rel => exact ⟨_, _, by omega, by go_num, HY, HT, HG, HR1, HX1, HB1⟩
            case measure => simp [intOf]
        · have hm4 : m = 4 := by omega
          subst hm4
          have HN := Lib.hid hT.out.next
          clear hlm hm
          go_wp2
          go_roundw
          case rel => first | exact ⟨k + 1, S1, by omega, by go_num, HS2, HN, hG, hR1, hX1, hB1⟩ | exact ⟨_, _, ⟨k + 1, S1, by omega, by go_num, HS2, HN, hG, hR1, hX1, hB1⟩, rfl⟩
          case measure => simp [intOf]; omega
    · have hk4 : k = 4 := by omega
      subst hk4
      have hAll := hS.out
      have c0 := hF.out.1 0 (by omega)
      have c1 := hF.out.1 1 (by omega)
      have c2 := hF.out.1 2 (by omega)
      have c3 := hF.out.1 3 (by omega)
      have d0 := hR.out.1 0 (by omega)
      have d1 := hR.out.1 1 (by omega)
      have d2 := hR.out.1 2 (by omega)
      have d3 := hR.out.1 3 (by omega)
      have f0 := hR.out.2.1 0 (by omega)
      have f1 := hR.out.2.1 1 (by omega)
      have f2 := hR.out.2.1 2 (by omega)
      have f3 := hR.out.2.1 3 (by omega)
      clear hlt hk
      obtain ⟨a0, b0, s0, -⟩ := hAll.all (i := 0) (by omega)
      obtain ⟨a1, b1, s1, -⟩ := hAll.all (i := 1) (by omega)
      obtain ⟨a2, b2, s2, -⟩ := hAll.all (i := 2) (by omega)
      obtain ⟨a3, b3, s3, -⟩ := hAll.all (i := 3) (by omega)
      have t0 := st_c a0 b0
      have t1 := st_c a1 b1
      have t2 := st_c a2 b2
      have t3 := st_c a3 b3
      have HA := Lib.hid (fun i hi => hAll.all (i := i) hi)
      clear hAll
      have HS0 := Lib.hid s0
      have HS1 := Lib.hid s1
      have HS2 := Lib.hid s2
      have HS3 := Lib.hid s3
      go_wp2
      refine bodyPost_ret (Kit.results_c rfl _ _ (w.heap.size + 1) 0 [.complex .f64 a0 b0, .complex .f64 a1 b1, .complex .f64 a2 b2, .complex .f64 a3 b3] _ rfl (range_4 (by go_cell) (by go_cell) (by go_cell) (by go_cell)) Tryz.underlying179 rfl (by kernel_rfl)) rfl ?_
      refine ⟨⟨S, ?_, HA.out⟩, ?_⟩
      · unfold agg4
        rw [HS0.out, HS1.out, HS2.out, HS3.out]
      · have := hBw.out
        go_grown
end Go.Proofs.YtoghpoopgkahiaaGreatDoor.CFour
end
section
namespace Go.Proofs.YtoghpoopgkahiaaGreatDoor.CFour
open Go Go.ChangeShapes Go.WideShapes Go.ChangeAt Go.RowKit
open FloatNum
set_option linter.unusedVariables false
/-- four cells of a block that are set. -/
def set4 (g : Nat) (L : Nat → Value) (w : World) : World := (((w.setCell ⟨g, 0, none⟩ (L 0)).setCell ⟨g, 1, none⟩ (L 1)).setCell ⟨g, 2, none⟩ (L 2)).setCell ⟨g, 3, none⟩ (L 3)
theorem Four.set4 {g : Nat} {S : Nat → Value} {w : World} (h : Four g S w) (L : Nat → Value) : Four g L (set4 g L w) := by
  have h4 := (((h.set (k := 0) (by omega) (L 0)).set (k := 1) (by omega) (L 1)).set (k := 2) (by omega) (L 2)).set (k := 3) (by omega) (L 3)
  refine ⟨fun i hi => (h4.1 i hi).trans ?_, h4.2.1, h4.2.2⟩
  obtain rfl | rfl | rfl | rfl := lt4 hi <;> rfl
theorem Four.oth4 {g g' : Nat} {S : Nat → Value} {w : World} (h : Four g S w) (L : Nat → Value) (hg : g ≠ g') : Four g S (CFour.set4 g' L w) := (((h.other (L 0) hg).other (L 1) hg).other (L 2) hg).other (L 3) hg
theorem Four.there {g : Nat} {S : Nat → Value} {w : World} (h : Four g S w) : w.there g 0 4 := fun j hj => by
  rw [Nat.zero_add]
  exact ⟨by rw [h.1 j hj]; rfl, h.2.1 j hj⟩
theorem one4 (a b c d : Int) : (#[Value.int .i64 a, .int .i64 b, .int .i64 c, .int .i64 d].all (·.oneCell')) = true := all_oneCell_toArray (cs := [Value.int .i64 a, .int .i64 b, .int .i64 c, .int .i64 d]) (by intro v hv; simp at hv; rcases hv with rfl | rfl | rfl | rfl <;> rfl)
theorem oneC {S : Nat → Value} {p : Nat → G} (h : ∀ i, i < 4 → IsC (S i) (p i)) : (#[S 0, S 1, S 2, S 3].all (·.oneCell')) = true := by
  obtain ⟨_, _, h0, _⟩ := h 0 (by omega)
  obtain ⟨_, _, h1, _⟩ := h 1 (by omega)
  obtain ⟨_, _, h2, _⟩ := h 2 (by omega)
  obtain ⟨_, _, h3, _⟩ := h 3 (by omega)
  rw [h0, h1, h2, h3]
  exact all_oneCell_toArray (cs := [_, _, _, _]) (by intro v hv; simp at hv; rcases hv with rfl | rfl | rfl | rfl <;> rfl)
theorem below_set4 {B g : Nat} {a w : World} (h : Below B a w) (hg : B ≤ g) (L : Nat → Value) : Below B a (set4 g L w) := (((h.setCell (p := ⟨g, 0, none⟩) hg (L 0)).setCell (p := ⟨g, 1, none⟩) hg (L 1)).setCell (p := ⟨g, 2, none⟩) hg (L 2)).setCell (p := ⟨g, 3, none⟩) hg (L 3)
/-- two cells of block g, none frozen. -/
def Two (g : Nat) (a b : Value) (w : World) : Prop := w.cell? ⟨g, 0, none⟩ = some a ∧ w.cell? ⟨g, 1, none⟩ = some b ∧ (∀ i, i < 2 → w.frozen? ⟨g, i, none⟩ = false) ∧ g < w.heap.size
theorem Two.below {g : Nat} {a b : Value} {w w' : World} (h : Two g a b w) {B : Nat} (hb : Below B w w') (hg : g < B) : Two g a b w' := by
  refine ⟨?_, ?_, fun i hi => ?_, Nat.lt_of_lt_of_le h.2.2.2 hb.size⟩
  · rw [hb.cell (p := ⟨g, 0, none⟩) hg]; exact h.1
  · rw [hb.cell (p := ⟨g, 1, none⟩) hg]; exact h.2.1
  · rw [hb.frozen (p := ⟨g, i, none⟩) hg]; exact h.2.2.1 i hi
theorem Two.drew {g : Nat} {a b : Value} {w : World} (h : Two g a b w) : Two g a b w.drew := h
theorem Two.new (w : World) (v u : Value) (T : TypeId) : Two w.heap.size v u (w.alloc (.cells #[v, u] T)) := by
  refine ⟨by go_cell, by go_cell, fun i hi => ?_, by simp⟩
  rcases i with _ | _ | i
  all_goals first | (exact absurd hi (by omega)) | go_cell
theorem Two.there {g : Nat} {a b : Value} {w : World} (h : Two g a b w) : w.there g 0 2 := fun j hj => by
  rw [Nat.zero_add]
  refine ⟨?_, h.2.2.1 j hj⟩
  rcases j with _ | _ | j
  · rw [h.1]; rfl
  · rw [h.2.1]; rfl
  · omega
def set2 (g : Nat) (a b : Value) (w : World) : World := (w.setCell ⟨g, 0, none⟩ a).setCell ⟨g, 1, none⟩ b
theorem Two.set2 {g : Nat} {a b : Value} {w : World} (h : Two g a b w) (x y : Value) : Two g x y (set2 g x y w) := by
  refine ⟨?_, ?_, fun i hi => ?_, ?_⟩
  · show ((w.setCell ⟨g, 0, none⟩ x).setCell ⟨g, 1, none⟩ y).cell? ⟨g, 0, none⟩ = _
    rw [World.cell?_setCell_other _ _ _ _ (by intro q; cases q)]
    exact World.cell?_setCell_same' _ _ _ (by rw [h.1]; rfl)
  · show ((w.setCell ⟨g, 0, none⟩ x).setCell ⟨g, 1, none⟩ y).cell? ⟨g, 1, none⟩ = _
    refine World.cell?_setCell_same' _ _ _ ?_
    rw [World.cell?_setCell_other _ _ _ _ (by intro q; cases q), h.2.1]; rfl
  · show ((w.setCell ⟨g, 0, none⟩ x).setCell ⟨g, 1, none⟩ y).frozen? _ = _
    rw [World.frozen?_setCell, World.frozen?_setCell]; exact h.2.2.1 i hi
  · show _ < ((w.setCell ⟨g, 0, none⟩ x).setCell ⟨g, 1, none⟩ y).heap.size
    simp; exact h.2.2.2
theorem Two.oth4 {g g' : Nat} {a b : Value} {w : World} (h : Two g a b w) (L : Nat → Value) (hg : g ≠ g') : Two g a b (CFour.set4 g' L w) := by
  have e : ∀ (k : Nat) (p : Addr), p.block = g' → (⟨g, k, none⟩ : Addr) ≠ p := fun k p hp q => by subst q; exact hg hp
  unfold CFour.set4
  refine ⟨?_, ?_, fun i hi => ?_, ?_⟩
  · rw [World.cell?_setCell_other _ _ _ _ (fun q => hg (congrArg Addr.block q).symm), World.cell?_setCell_other _ _ _ _ (fun q => hg (congrArg Addr.block q).symm), World.cell?_setCell_other _ _ _ _ (fun q => hg (congrArg Addr.block q).symm), World.cell?_setCell_other _ _ _ _ (fun q => hg (congrArg Addr.block q).symm)]; exact h.1
  · rw [World.cell?_setCell_other _ _ _ _ (fun q => hg (congrArg Addr.block q).symm), World.cell?_setCell_other _ _ _ _ (fun q => hg (congrArg Addr.block q).symm), World.cell?_setCell_other _ _ _ _ (fun q => hg (congrArg Addr.block q).symm), World.cell?_setCell_other _ _ _ _ (fun q => hg (congrArg Addr.block q).symm)]; exact h.2.1
  · simp only [World.frozen?_setCell]; exact h.2.2.1 i hi
  · simp; exact h.2.2.2
theorem below_set2 {B g : Nat} {a w : World} (h : Below B a w) (hg : B ≤ g) (x y : Value) : Below B a (set2 g x y w) := (h.setCell (p := ⟨g, 0, none⟩) hg x).setCell (p := ⟨g, 1, none⟩) hg y
end Go.Proofs.YtoghpoopgkahiaaGreatDoor.CFour
end
section
namespace Go.Proofs.YtoghpoopgkahiaaGreatDoor.CGemm
open Go Go.ChangeShapes Go.WideShapes Go.ChangeAt Go.RowKit
open Plain
set_option linter.unusedVariables false
/-- may a matrix of so many rows and columns have so many numbers? -/
def holdsB (L r c : Int) : Bool := decide (1 ≤ r ∧ r ≤ 16384 ∧ 1 ≤ c ∧ c ≤ 16384 ∧ L = r * c)
theorem small_mul {r c : Int} (h1 : 1 ≤ r) (h2 : r ≤ 16384) (h3 : 1 ≤ c) (h4 : c ≤ 16384) : 1 ≤ r * c ∧ r * c ≤ 268435456 := by
  have a := Int.mul_le_mul h2 h4 (by omega) (by omega)
  have b := Int.mul_le_mul h1 h3 (by omega) (by omega)
  omega
theorem holdsB_yes {L r c : Int} (h : holdsB L r c = true) : 1 ≤ r ∧ r ≤ 16384 ∧ 1 ≤ c ∧ c ≤ 16384 ∧ L = r * c := by simpa [holdsB] using h
theorem holds_to (L r c : Int) (b : Bool) (hb : holdsB L r c = b) (w : World) :
    Calls Tryz.prog 127 #[.int .i64 L, .int .i64 r, .int .i64 c] w fun e w' => e = .returned (.bool b) ∧ w = w' := by
  have HB := Lib.hid hb
  clear hb
  rcases (show r < 1 ∨ (1 ≤ r ∧ 16384 < r) ∨ (1 ≤ r ∧ r ≤ 16384 ∧ c < 1) ∨ (1 ≤ r ∧ r ≤ 16384 ∧ 1 ≤ c ∧ 16384 < c) ∨ (1 ≤ r ∧ r ≤ 16384 ∧ 1 ≤ c ∧ c ≤ 16384) by omega) with h1 | ⟨h1, h2⟩ | ⟨h1, h2, h3⟩ | ⟨h1, h2, h3, h4⟩ | ⟨h1, h2, h3, h4⟩
  · obtain rfl : b = false := by rw [← HB.out]; simp [holdsB]; omega
    go_enter Tryz.func127, Tryz.ntmps127
    go_wp2_with fail
    go_ret
    exact ⟨rfl, rfl⟩
  · obtain rfl : b = false := by rw [← HB.out]; simp [holdsB]; omega
    go_enter Tryz.func127, Tryz.ntmps127
    go_wp2_with fail
    go_ret
    exact ⟨rfl, rfl⟩
  · obtain rfl : b = false := by rw [← HB.out]; simp [holdsB]; omega
    go_enter Tryz.func127, Tryz.ntmps127
    go_wp2_with fail
    go_ret
    exact ⟨rfl, rfl⟩
  · obtain rfl : b = false := by rw [← HB.out]; simp [holdsB]; omega
    go_enter Tryz.func127, Tryz.ntmps127
    go_wp2_with fail
    go_ret
    exact ⟨rfl, rfl⟩
  · obtain ⟨s1, s2⟩ := small_mul h1 h2 h3 h4
    have e : IntKind.i64.wrap (r * c) = r * c := IntWalk.i64_in _ (by omega)
    have hbb : decide (L = r * c) = b := by rw [← HB.out]; simp [holdsB, h1, h2, h3, h4]
    obtain ⟨q, hq⟩ : ∃ q, r * c = q := ⟨_, rfl⟩
    rw [hq] at e hbb
    have e2 : IntKind.i64.wrap (r * c) = q := by rw [hq]; exact e
    clear hq s1 s2 HB
    go_enter Tryz.func127, Tryz.ntmps127
    go_wp2_with fail
    go_ret
    refine ⟨?_, rfl⟩
    rw [← hbb]
    first | rfl | simp
theorem tiles_to (n : Nat) (h : n ≤ 16384) (w : World) :
    Calls Tryz.prog 128 #[.int .i64 (n : Int)] w fun e w' => e = .returned (.int .i64 (((n + 31) / 32 : Nat) : Int)) ∧ w = w' := by
  have e1 : IntKind.i64.wrap ((n : Int) + 32) = (n : Int) + 32 := IntWalk.i64_in _ (by omega)
  have e2 : IntKind.i64.wrap ((n : Int) + 32 - 1) = (n : Int) + 31 := by rw [IntWalk.i64_in _ (by omega)]; omega
  have e3 : ((n : Int) + 31).tdiv 32 = (((n + 31) / 32 : Nat) : Int) := by
    rw [Int.tdiv_eq_ediv_of_nonneg (by omega)]; omega
  have e4 : IntKind.i64.wrap ((((n + 31) / 32 : Nat) : Int)) = (((n + 31) / 32 : Nat) : Int) := IntWalk.i64_in _ (by omega)
  generalize (n + 31) / 32 = q at e3 e4 ⊢
  go_enter Tryz.func128, Tryz.ntmps128
  go_wp2_with fail
  go_ret
  exact ⟨rfl, rfl⟩
theorem range_4 {w : World} {b : Nat} {v0 v1 v2 v3 : Value} (h0 : w.cell? ⟨b, 0, none⟩ = some v0) (h1 : w.cell? ⟨b, 1, none⟩ = some v1) (h2 : w.cell? ⟨b, 2, none⟩ = some v2) (h3 : w.cell? ⟨b, 3, none⟩ = some v3) :
    w.rangeAt b 0 [v0, v1, v2, v3] := fun j v hj => by
  match j, hj with
  | 0, hj => simp only [List.getElem?_cons_zero] at hj; cases hj; exact h0
  | 1, hj => simp at hj; cases hj; exact h1
  | 2, hj => simp at hj; cases hj; exact h2
  | 3, hj => simp at hj; cases hj; exact h3
  | j + 4, hj => simp at hj
theorem bounds_to (p q e0 e1 e2 e3 : Nat) (h : p ≤ 1000) (h' : q ≤ 1000) (h0 : p * 32 = e0) (h1 : (p + 1) * 32 = e1) (h2 : q * 32 = e2) (h3 : (q + 1) * 32 = e3) (w : World) :
    Calls Tryz.prog 129 #[.int .i64 (p : Int), .int .i64 (q : Int)] w fun e w' => e = .returned (.agg #[.int .i64 (e0 : Int), .int .i64 (e1 : Int), .int .i64 (e2 : Int), .int .i64 (e3 : Int)]) ∧ Below w.heap.size w w' := by
  obtain ⟨p', hp⟩ : ∃ p' : Int, (p : Int) + 1 = p' := ⟨_, rfl⟩
  obtain ⟨q', hq⟩ : ∃ q' : Int, (q : Int) + 1 = q' := ⟨_, rfl⟩
  have g1 : IntKind.i64.wrap ((p : Int) * 32) = (e0 : Int) := by rw [IntWalk.i64_in _ (by omega)]; omega
  have g2 : IntKind.i64.wrap ((p : Int) + 1) = p' := by rw [IntWalk.i64_in _ (by omega)]; omega
  have g3 : IntKind.i64.wrap (p' * 32) = (e1 : Int) := by rw [IntWalk.i64_in _ (by omega)]; omega
  have f1 : IntKind.i64.wrap ((q : Int) * 32) = (e2 : Int) := by rw [IntWalk.i64_in _ (by omega)]; omega
  have f2 : IntKind.i64.wrap ((q : Int) + 1) = q' := by rw [IntWalk.i64_in _ (by omega)]; omega
  have f3 : IntKind.i64.wrap (q' * 32) = (e3 : Int) := by rw [IntWalk.i64_in _ (by omega)]; omega
  clear hp hq h0 h1 h2 h3
  go_enter Tryz.func129, Tryz.ntmps129
  go_wp2_with fail
  refine bodyPost_ret (Kit.results_c rfl _ _ w.heap.size 0 [.int .i64 (e0 : Int), .int .i64 (e1 : Int), .int .i64 (e2 : Int), .int .i64 (e3 : Int)] _ rfl (range_4 (by go_cell) (by go_cell) (by go_cell) (by go_cell)) Tryz.underlying160 rfl (by kernel_rfl)) rfl ?_
  exact ⟨rfl, (Below.refl _ _).alloc (Nat.le_refl _) _⟩
end Go.Proofs.YtoghpoopgkahiaaGreatDoor.CGemm
end
