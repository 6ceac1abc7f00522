/- Layer 14 (four): the contract of the code's sums of turned numbers. -/
import Derived.Test.YtceejjliboiciaaRows
import Derived.Test.YtceejjliboiciaaChecked
import Derived.Test.YtceejjliboiciaaFourNum
import Derived.Test.YtceejjliboiciaaKit
import Derived.Handy
namespace Go.Proofs.Ytceejjliboiciaa.CFour
open Go Go.ChangeShapes Go.WideShapes Go.ChangeAt Go.RowKit
open FloatNum
set_option linter.unusedVariables false

/-- four cells of block g, none frozen. -/
def Four (g : Nat) (S : Nat → Value) (w : World) : Prop := (∀ i, i < 4 → w.cell? ⟨g, i, none⟩ = some (S i)) ∧ (∀ i, i < 4 → w.frozen? ⟨g, i, none⟩ = false) ∧ g < w.heap.size
theorem Four.below {g : Nat} {S : Nat → Value} {w w' : World} (h : Four g S w) {B : Nat} (hb : Below B w w') (hg : g < B) : Four g S w' := by
  refine ⟨fun i hi => ?_, fun i hi => ?_, Nat.lt_of_lt_of_le h.2.2 hb.size⟩
  · rw [hb.cell (p := ⟨g, i, none⟩) hg]; exact h.1 i hi
  · rw [hb.frozen (p := ⟨g, i, none⟩) hg]; exact h.2.1 i hi
theorem Four.drew {g : Nat} {S : Nat → Value} {w : World} (h : Four g S w) : Four g S w.drew := h
theorem Four.set {g : Nat} {S : Nat → Value} {w : World} (h : Four g S w) {k : Nat} (hk : k < 4) (v : Value) : Four g (fun i => if i = k then v else S i) (w.setCell ⟨g, k, none⟩ v) := by
  refine ⟨fun i hi => ?_, fun i hi => ?_, ?_⟩
  · by_cases e : i = k
    · subst e
      simp only [if_true]
      exact World.cell?_setCell_same' _ _ _ (by rw [h.1 i hi]; rfl)
    · simp only [if_neg e]
      rw [World.cell?_setCell_other _ _ _ _ (by intro q; cases q; exact e rfl)]
      exact h.1 i hi
  · rw [World.frozen?_setCell]; exact h.2.1 i hi
  · simp; exact h.2.2
theorem Four.other {g g' k : Nat} {S : Nat → Value} {w : World} (h : Four g S w) (v : Value) (hg : g ≠ g') : Four g S (w.setCell ⟨g', k, none⟩ v) := by
  refine ⟨fun i hi => ?_, fun i hi => ?_, ?_⟩
  · rw [World.cell?_setCell_other _ _ _ _ (by intro q; cases q; exact hg rfl)]
    exact h.1 i hi
  · rw [World.frozen?_setCell]; exact h.2.1 i hi
  · simp; exact h.2.2
theorem Four.new (w : World) (v : Value) (T : TypeId) : Four w.heap.size (fun _ => v) (w.alloc (.cells #[v, v, v, v] T)) := by
  refine ⟨fun i hi => ?_, fun i hi => ?_, by simp⟩
  · rcases i with _ | _ | _ | _ | i
    all_goals first | (exact absurd hi (by omega)) | go_cell
  · rcases i with _ | _ | _ | _ | i
    all_goals first | (exact absurd hi (by omega)) | go_cell
theorem Four.box (w : World) (c : Nat → Value) (T : TypeId) : Four w.heap.size c (w.alloc (.cells #[c 0, c 1, c 2, c 3] T)) := by
  refine ⟨fun i hi => ?_, fun i hi => ?_, by simp⟩
  · rcases i with _ | _ | _ | _ | i
    all_goals first | (exact absurd hi (by omega)) | go_cell
  · rcases i with _ | _ | _ | _ | i
    all_goals first | (exact absurd hi (by omega)) | go_cell
theorem lt4 {k : Nat} (h : k < 4) : k = 0 ∨ k = 1 ∨ k = 2 ∨ k = 3 := by omega
abbrev agg4 (S : Nat → Value) : Value := .agg #[S 0, S 1, S 2, S 3]
def z0 : Value := .complex .f64 0 0

theorem ix0 (c : Nat → Value) (w : World) : (Instr.index 101 (agg4 c) (.int .i64 0)).run Try.prog w = .ok (c 0) w := by kernel_rfl
theorem ix1 (c : Nat → Value) (w : World) : (Instr.index 101 (agg4 c) (.int .i64 1)).run Try.prog w = .ok (c 1) w := by kernel_rfl
theorem ix2 (c : Nat → Value) (w : World) : (Instr.index 101 (agg4 c) (.int .i64 2)).run Try.prog w = .ok (c 2) w := by kernel_rfl
theorem ix3 (c : Nat → Value) (w : World) : (Instr.index 101 (agg4 c) (.int .i64 3)).run Try.prog w = .ok (c 3) w := by kernel_rfl
theorem st_c (x y : Nat) : ∀ (w : World) (a : Addr) (m : Mode), (store a (.complex .f64 x y) m).run Try.prog w = stored Try.prog w a (.complex .f64 x y) m := fun w a m => run_store _ w a _ m rfl
theorem range_4 {w : World} {b : Nat} {x y z u : Value} (h0 : w.cell? ⟨b, 0, none⟩ = some x) (h1 : w.cell? ⟨b, 1, none⟩ = some y) (h2 : w.cell? ⟨b, 2, none⟩ = some z) (h3 : w.cell? ⟨b, 3, none⟩ = some u) : w.rangeAt b 0 [x, y, z, u] := by
  intro j v hj
  match j, hj with
  | 0, hj => simpa [← hj] using h0
  | 1, hj => simpa [← hj] using h1
  | 2, hj => simpa [← hj] using h2
  | 3, hj => simpa [← hj] using h3
set_option maxHeartbeats 4000000 in
theorem turned_to (c : Nat → Value) (p : Nat → G) (q : Value) (e : Int) (he : e = 1 ∨ e = -1) (B : Nat) (hB : B ≤ 2 ^ 48) (hc : ∀ i, i < 4 → IsC (c i) (p i)) (hp : ∀ i, Bd B (p i)) (hq : IsC q (0, e)) (w : World) :
    Calls Try.prog 65 #[agg4 c, q] w fun e' w' => (∃ S, e' = .returned (agg4 S) ∧ ∀ i, i < 4 → IsC (S i) (gpart p e i 4)) ∧ Below w.heap.size w w' := by
  have HC := Lib.hid hc
  have HP := Lib.hid hp
  have HQ := Lib.hid hq
  have HE := Lib.hid he
  have HBB := Lib.hid hB
  clear hc hp hq he hB
  go_enter Try.func65, Try.ntmps65
  go_wp2_with fail
  go_loopw [6, 11] (fun s u wr => ∃ (k : Nat) (S : Nat → Value), k ≤ 4 ∧ u = .int .i64 k ∧ Hid (IsC s (upow e k)) ∧ Hid (SumsR p e k 0 S) ∧ Hid (Four (w.heap.size + 1 + 1) S wr) ∧ Hid (Four (w.heap.size + 1) (fun _ => z0) wr) ∧ Hid (Four w.heap.size c wr) ∧ Hid (Below w.heap.size w wr)) (fun _ u _ => 4 - (intOf u).toNat)
  case atStart =>
    have h2 := Four.new ((w.alloc (.cells #[c 0, c 1, c 2, c 3] 101)).alloc (.cells #[z0, z0, z0, z0] 101)) z0 101
    have h1 := (Four.new (w.alloc (.cells #[c 0, c 1, c 2, c 3] 101)) z0 101).below ((Below.refl _ _).alloc (Nat.le_refl _) (.cells #[z0, z0, z0, z0] 101)) (by simp)
    have h0 := (Four.box w c 101).below (((Below.refl _ _).alloc (Nat.le_refl _) (.cells #[z0, z0, z0, z0] 101)).alloc (by simp) (.cells #[z0, z0, z0, z0] 101)) (by simp)
    have e2 : ((w.alloc (.cells #[c 0, c 1, c 2, c 3] 101)).alloc (.cells #[z0, z0, z0, z0] 101)).heap.size = w.heap.size + 1 + 1 := by simp
    have e1 : (w.alloc (.cells #[c 0, c 1, c 2, c 3] 101)).heap.size = w.heap.size + 1 := by simp
    rw [e2] at h2
    rw [e1] at h1
    exact ⟨0, fun _ => z0, by omega, rfl, Lib.hid ⟨_, _, rfl, isF_one, isF_zero⟩, Lib.hid (SumsR.start p e), Lib.hid h2, Lib.hid h1, Lib.hid h0, Lib.hid ((((Below.refl _ _).alloc (Nat.le_refl _) _).alloc (by simp) _).alloc (by simp; omega) _)⟩
  case round =>
    obtain ⟨k, S, hk, rfl, hs, hS, hF, hR, hX, hBw⟩ := hrel
    by_cases hlt : k < 4
    · obtain ⟨s2, hs1, hs2⟩ := IsC.mul (P := Try.prog) hs.out HQ.out (upow_u HE.out k).bd (B := 1) (by rcases HE.out with rfl | rfl <;> simp [Bd]) (by decide) (by decide) (by decide)
      rw [← upow_one, upow_add] at hs2
      have HS2 := Lib.hid hs2
      clear hs2
      have c0 := hX.out.1 0 (by omega)
      have c1 := hX.out.1 1 (by omega)
      have c2 := hX.out.1 2 (by omega)
      have c3 := hX.out.1 3 (by omega)
      go_wp2
      clear c0 c1 c2 c3
      go_loopw [8, 15] (fun t u wr => ∃ (m : Nat) (S : Nat → Value), m ≤ 4 ∧ u = .int .i64 m ∧ Hid (IsC t (upow e (k * m))) ∧ Hid (SumsR p e k m S) ∧ Hid (Four (w.heap.size + 1 + 1) S wr) ∧ Hid (Four (w.heap.size + 1) (fun _ => z0) wr) ∧ Hid (Four w.heap.size c wr) ∧ Hid (Below w.heap.size w wr)) (fun _ u _ => 4 - (intOf u).toNat)
      case atStart => exact ⟨0, S, by omega, rfl, Lib.hid ⟨_, _, rfl, isF_one, isF_zero⟩, hS, hF, hR, hX, hBw⟩
      case round =>
        obtain ⟨m, S1, hm, rfl, ht, hT, hG, hR1, hX1, hB1⟩ := hrel
        by_cases hlm : m < 4
        · obtain ⟨v, hv1, hv2⟩ := IsC.mul (P := Try.prog) (HC.out m hlm) ht.out (HP.out m) (upow_u HE.out (k * m)).bd (Nat.lt_of_le_of_lt HBB.out (by decide)) (by decide) (by have := HBB.out; omega)
          obtain ⟨x, hx1, hx2⟩ := IsC.add (P := Try.prog) (hT.out.at hlt) hv2 (gpart_bd HE.out HP.out k m) ((HP.out m).turn (upow_u HE.out (k * m))) (by have := HBB.out; have : m * B ≤ 3 * B := Nat.mul_le_mul_right _ (by omega); omega)
          obtain ⟨y, hy1, hy2⟩ := IsC.mul (P := Try.prog) ht.out hs.out (upow_u HE.out (k * m)).bd (upow_u HE.out k).bd (by decide) (by decide) (by decide)
          rw [upow_add] at hy2
          have HY : Hid (IsC y (upow e (k * (m + 1)))) := Lib.hid hy2
          have HT := Lib.hid (hT.out.step hx2)
          have HG := Lib.hid (hG.out.set hlt x)
          have HR1 := Lib.hid (hR1.out.other (g' := w.heap.size + 1 + 1) (k := k) x (by omega))
          have HX1 := Lib.hid (hX1.out.other (g' := w.heap.size + 1 + 1) (k := k) x (by omega))
          have HB1 := Lib.hid (hB1.out.setCell (p := ⟨w.heap.size + 1 + 1, k, none⟩) (by show w.heap.size ≤ w.heap.size + 1 + 1; omega) x)
          obtain ⟨xa, xb, rfl, -⟩ := hx2
          clear hy2 hv2
          have c0 := hG.out.1 0 (by omega)
          have c1 := hG.out.1 1 (by omega)
          have c2 := hG.out.1 2 (by omega)
          have c3 := hG.out.1 3 (by omega)
          have f0 := hG.out.2.1 0 (by omega)
          have f1 := hG.out.2.1 1 (by omega)
          have f2 := hG.out.2.1 2 (by omega)
          have f3 := hG.out.2.1 3 (by omega)
          have hst := st_c xa xb
          have x0 := ix0 c
          have x1 := ix1 c
          have x2 := ix2 c
          have x3 := ix3 c
          obtain rfl | rfl | rfl | rfl := lt4 hlt <;> obtain rfl | rfl | rfl | rfl := lt4 hlm
          all_goals
            go_wp2
            go_roundw
            case rel => exact ⟨_, _, by omega, by go_num, HY, HT, HG, HR1, HX1, HB1⟩
            case measure => simp [intOf]
        · have hm4 : m = 4 := by omega
          subst hm4
          have HN := Lib.hid hT.out.next
          clear hlm hm
          go_wp2
          go_roundw
          case rel => first | exact ⟨k + 1, S1, by omega, by go_num, HS2, HN, hG, hR1, hX1, hB1⟩ | exact ⟨_, _, ⟨k + 1, S1, by omega, by go_num, HS2, HN, hG, hR1, hX1, hB1⟩, rfl⟩
          case measure => simp [intOf]; omega
    · have hk4 : k = 4 := by omega
      subst hk4
      have hAll := hS.out
      have c0 := hF.out.1 0 (by omega)
      have c1 := hF.out.1 1 (by omega)
      have c2 := hF.out.1 2 (by omega)
      have c3 := hF.out.1 3 (by omega)
      have d0 := hR.out.1 0 (by omega)
      have d1 := hR.out.1 1 (by omega)
      have d2 := hR.out.1 2 (by omega)
      have d3 := hR.out.1 3 (by omega)
      have f0 := hR.out.2.1 0 (by omega)
      have f1 := hR.out.2.1 1 (by omega)
      have f2 := hR.out.2.1 2 (by omega)
      have f3 := hR.out.2.1 3 (by omega)
      clear hlt hk
      obtain ⟨a0, b0, s0, -⟩ := hAll.all (i := 0) (by omega)
      obtain ⟨a1, b1, s1, -⟩ := hAll.all (i := 1) (by omega)
      obtain ⟨a2, b2, s2, -⟩ := hAll.all (i := 2) (by omega)
      obtain ⟨a3, b3, s3, -⟩ := hAll.all (i := 3) (by omega)
      have t0 := st_c a0 b0
      have t1 := st_c a1 b1
      have t2 := st_c a2 b2
      have t3 := st_c a3 b3
      have HA := Lib.hid (fun i hi => hAll.all (i := i) hi)
      clear hAll
      have HS0 := Lib.hid s0
      have HS1 := Lib.hid s1
      have HS2 := Lib.hid s2
      have HS3 := Lib.hid s3
      go_wp2
      refine bodyPost_ret (Kit.results_c rfl _ _ (w.heap.size + 1) 0 [.complex .f64 a0 b0, .complex .f64 a1 b1, .complex .f64 a2 b2, .complex .f64 a3 b3] _ rfl (range_4 (by go_cell) (by go_cell) (by go_cell) (by go_cell)) Try.underlying101 rfl (by kernel_rfl)) rfl ?_
      refine ⟨⟨S, ?_, HA.out⟩, ?_⟩
      · unfold agg4
        rw [HS0.out, HS1.out, HS2.out, HS3.out]
      · have := hBw.out
        go_grown
end Go.Proofs.Ytceejjliboiciaa.CFour
