/- Layer 15 (wheel): the contract of the code's sums of rows that are equally long. -/
import Derived.Test.YtceejjliboiciaaWheelTurned
import Derived.Deep.CutRange
namespace Go.Proofs.Ytceejjliboiciaa.CWheel
open Go Go.ChangeShapes Go.WideShapes Go.ChangeAt Go.RowKit
open FloatNum CFour
set_option linter.unusedVariables false

abbrev I64v (zs : List Int) : List Value := zs.map (.int .i64)
def nums (F : Nat → Int) (n : Nat) : List Int := (List.range n).map F
theorem nums_len (F : Nat → Int) (n : Nat) : (nums F n).length = n := by simp [nums]
theorem nums_succ (F : Nat → Int) (n : Nat) : nums F (n + 1) = nums F n ++ [F n] := by simp [nums, List.range_succ]
theorem nums_at (F : Nat → Int) {n i : Nat} (h : i < n) : (nums F n)[i]? = some (F i) := by simp [nums, h]
theorem nums_getD (F : Nat → Int) {n i : Nat} (h : i < n) : (nums F n).getD i 0 = F i := by rw [List.getD_eq_getElem?_getD, nums_at F h]; rfl
/-- a list of numbers of 64 bits, of the call's own. -/
def Own64 (w : World) (n : Nat) (zs : List Int) (e : Ending) (w' : World) : Prop :=
  ∃ v, e = .returned v ∧ w'.ownsRow w.heap.size 2 1 v n (I64v zs) ∧ Below w.heap.size w w'
theorem own_nil (w : World) (base : Nat) (e : TypeId) (size : Nat) : w.ownsRow base e size (.slice none 0 0) 0 [] := ⟨by simp, .inl ⟨rfl, rfl⟩⟩
theorem info_i64 : (Try.prog.info? 2).map (fun i => (i.zero, i.size, i.bytes)) = some (some (.int .i64 0), 1, 8) := by kernel_rfl
theorem info_c4 : (Try.prog.info? 101).map (fun i => (i.zero, i.size, i.bytes)) = some (some (.agg #[z0, z0, z0, z0]), 4, 64) := by kernel_rfl
theorem info_parts {T : Nat} {z : Value} {a b : Nat} (h : (Try.prog.info? T).map (fun i => (i.zero, i.size, i.bytes)) = some (some z, a, b)) : ∃ i, Try.prog.info? T = some i ∧ i.zero = some z ∧ i.size = a ∧ i.bytes = b := by
  obtain ⟨i, hi, h2⟩ := Option.map_eq_some_iff.1 h
  simp only [Prod.mk.injEq] at h2
  exact ⟨i, hi, h2.1, h2.2.1, h2.2.2⟩
/-- the first k wheels, one behind the other, as a list of cells. -/
def WF (W : Nat → Nat → Int) (k : Nat) (F : List Value) : Prop :=
  F.length = k * 4 ∧ (∀ u ∈ F, u.oneCell' = true) ∧ ∀ j, j < k → ∃ S : Nat → Value, (∀ i, i < 4 → IsC (S i) (wh4 (W j 0) 0 (W j 2) (W j 1) i)) ∧ ∀ i, i < 4 → F[j * 4 + i]? = some (S i)
theorem WF.start (W : Nat → Nat → Int) : WF W 0 [] := ⟨rfl, by simp, fun j hj => by omega⟩
theorem WF.step {W : Nat → Nat → Int} {k : Nat} {F : List Value} (h : WF W k F) {S : Nat → Value} (hS : ∀ i, i < 4 → IsC (S i) (wh4 (W k 0) 0 (W k 2) (W k 1) i)) : WF W (k + 1) (F ++ [S 0, S 1, S 2, S 3]) := by
  obtain ⟨h1, h2, h3⟩ := h
  refine ⟨by simp [h1]; omega, fun u hu => ?_, fun j hj => ?_⟩
  · rcases List.mem_append.1 hu with h | h
    · exact h2 u h
    · have := oneC hS
      simp at this
      simp at h
      rcases h with rfl | rfl | rfl | rfl
      · exact this.1
      · exact this.2.1
      · exact this.2.2.1
      · exact this.2.2.2
  · rcases Nat.lt_or_ge j k with hjk | hjk
    · obtain ⟨S', a, b⟩ := h3 j hjk
      refine ⟨S', a, fun i hi => ?_⟩
      rw [List.getElem?_append_left (by rw [h1]; omega)]
      exact b i hi
    · obtain rfl : j = k := by omega
      refine ⟨S, hS, fun i hi => ?_⟩
      rw [List.getElem?_append_right (by rw [h1]; omega), h1, show j * 4 + i - j * 4 = i by omega]
      obtain rfl | rfl | rfl | rfl := lt4 hi <;> rfl
/-- wheels in a block of their own. -/
def WhAt (w : World) (g n : Nat) (W : Nat → Nat → Int) : Prop :=
  g < w.heap.size ∧ ∀ k, k < n → ∃ S : Nat → Value, (∀ i, i < 4 → IsC (S i) (wh4 (W k 0) 0 (W k 2) (W k 1) i)) ∧ w.rangeAt g (0 + k * 4) [S 0, S 1, S 2, S 3]
theorem WhAt.wheels {w : World} {g n : Nat} {W : Nat → Nat → Int} (h : WhAt w g n W) : Wheels w w.heap.size (some ⟨g, 0, none⟩) n W := fun k hk => by
  obtain ⟨S, a, b⟩ := h.2 k hk
  exact ⟨g, 0, S, rfl, h.1, a, b⟩
theorem WhAt.of {w : World} {g n B : Nat} {W : Nat → Nat → Int} {F : List Value} (hF : WF W n F) (hr : Kit.Rd w B (some ⟨g, 0, none⟩) F) (hg : g < w.heap.size) : WhAt w g n W := ⟨hg, fun k hk => by
  obtain ⟨S, a, b⟩ := hF.2.2 k hk
  refine ⟨S, a, fun j v hj => ?_⟩
  have hj4 : j < 4 := by
    rcases Nat.lt_or_ge j 4 with h | h
    · exact h
    · rw [List.getElem?_eq_none (by simpa using h)] at hj; cases hj
  obtain ⟨ad, e, _, hc⟩ := hr (k * 4 + j) (S j) (b j hj4)
  cases e
  rw [Go.WideShapes.add_plain] at hc
  rw [show 0 + k * 4 + j = 0 + (k * 4 + j) by omega, hc]
  obtain rfl | rfl | rfl | rfl := lt4 hj4 <;> simpa using hj⟩
theorem WhAt.grown {w w' : World} {g n : Nat} {W : Nat → Nat → Int} {r : Option Nat} (h : WhAt w g n W) (hg : w.grownBy w' r) (hr : r ≠ some g) : WhAt w' g n W := by
  refine ⟨Nat.lt_of_lt_of_le h.1 hg.size, fun k hk => ?_⟩
  obtain ⟨S, a, b⟩ := h.2 k hk
  refine ⟨S, a, fun j v hj => ?_⟩
  exact hg.cell (b j v hj) (fun e => hr e.symm)
theorem WhAt.below {w w' : World} {B g n : Nat} {W : Nat → Nat → Int} (h : WhAt w g n W) (hb : Below B w w') (hB : g < B) : WhAt w' g n W := by
  refine ⟨Nat.lt_of_lt_of_le h.1 hb.size, fun k hk => ?_⟩
  obtain ⟨S, a, b⟩ := h.2 k hk
  exact ⟨S, a, range_below b hb hB⟩

theorem added_short (A : Option Addr) (rows : List (List Int)) (n cA : Nat) (WA : Value) (L : Nat) (hn : rows.length = n) (h1 : 1 ≤ n) (hL : ∀ row ∈ rows, row.length = L) (hl : L < 3) (w : World) (hr : Kit.RowsAt w w.heap.size .i16 A rows) :
    Calls Try.prog 37 #[.slice A n cA, WA] w fun e' w' => e' = .returned (.slice none 0 0) ∧ w = w' := by
  obtain ⟨ba, oa, Ak, m, ck, rfl, hba, hca, hm1, hm2, hm3, hrd⟩ := hr.row (i := 0) (by omega)
  have hmL : m = L := by rw [← hm1]; exact hL _ (List.getElem_mem _)
  subst hmL
  have k1 : (0 : Int) < (n : Int) := by omega
  have k2 : IntKind.i64.wrap ((m : Int) - 3) = (m : Int) - 3 := IntWalk.i64_in _ (by omega)
  have k3 : IntKind.i64.wrap ((m : Int) - 3 + 1) = (m : Int) - 3 + 1 := IntWalk.i64_in _ (by omega)
  have k4 : (m : Int) - 3 + 1 < 1 := by omega
  rw [Nat.add_zero] at hca
  clear hrd hm1 hm2 hL hr hn hl hm3
  go_enter Try.func37, Try.ntmps37
  go_wp2
  refine Kit.wp_scope_once 0 rfl ?_
  go_wp2
  go_step3
  refine ⟨rfl, ?_⟩
  go_wp2
  rw [Exit.noGoto_ret]
  go_ret
  exact ⟨rfl, rfl⟩
end Go.Proofs.Ytceejjliboiciaa.CWheel
