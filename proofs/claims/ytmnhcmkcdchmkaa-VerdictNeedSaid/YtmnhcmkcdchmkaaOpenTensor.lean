/- A struct of a struct of three integers and a slice of integers, by value: how it is opened. -/
import Derived.Test.YtmnhcmkcdchmkaaKit
import Derived.Lib.SmallJoins
namespace Go.Proofs.Ytmnhcmkcdchmkaa.Kit
open Go Go.ChangeShapes Go.WideShapes Go.ChangeAt Go.RowKit Go.Deep
set_option linter.unusedVariables false

section
variable {H : Type} {enc : TypeId × Value → H} {P : Program} {w : World} {base b0 : Nat} {spare : Nat → Bool} {held : Bool} {r : Reach}
theorem open_tensor {t s d e i : TypeId} {k : IntKind} {f0 f1 g0 g1 g2 : Field} {v : Value} {D : DataW H} {ps : List MemPlace}
    (ht : P.underlying t = some (.struct #[f0, f1])) (hs : P.underlying s = some (.struct #[g0, g1, g2])) (hd : P.underlying d = some (.slice e)) (he : P.underlying e = some (.int k)) (hi : P.underlying i = some (.int .i64)) (hce : P.cellsOf e = 1)
    (hct : P.cellsOf t = 4) (hcs : P.cellsOf s = 3) (hcd : P.cellsOf d = 1) (hci : P.cellsOf i = 1) (hf : f0.type = s ∧ f0.offset = 0 ∧ f1.type = d ∧ f1.offset = 3) (hg : g0.type = i ∧ g0.offset = 0 ∧ g1.type = i ∧ g1.offset = 1 ∧ g2.type = i ∧ g2.offset = 2)
    (hv : Value.okWide P w r b0 t v) (h : DataW.Trod enc P w base spare held t v D ps) :
    ∃ (x y z : Int) (A : Option Addr) (zs : List Int) (c : Nat), v = .agg #[.int .i64 x, .int .i64 y, .int .i64 z, .slice A zs.length c] ∧ (Lit.int .i64 x).wf = true ∧ (Lit.int .i64 y).wf = true ∧ (Lit.int .i64 z).wf = true ∧
      zs.length ≤ c ∧ c ≤ maxLen ∧ (∀ n ∈ zs, (Lit.int k n).wf = true) ∧ Rd w w.heap.size A (zs.map (.int k)) := by
  obtain ⟨cs, rfl, hsz⟩ := okWide_struct ht hv
  rw [hct] at hsz
  obtain ⟨c0, c1, c2, c3, rfl⟩ := size_4 hsz
  obtain ⟨fuel, hfu⟩ := h
  obtain ⟨xs, n, _, _, _, hlen, hx⟩ := DataW.trod_struct ht hfu
  have h0 := hx 0 f0 rfl
  have h1 := hx 1 f1 rfl
  rw [hf.1, hf.2.1, hcs] at h0
  rw [hf.2.2.1, hf.2.2.2, hcd] at h1
  have e0 : ((Value.agg #[c0, c1, c2, c3]).cells.toList.drop 0).take 3 = [c0, c1, c2] := rfl
  have e1 : ((Value.agg #[c0, c1, c2, c3]).cells.toList.drop 3).take 1 = [c3] := rfl
  rw [e0] at h0
  rw [e1] at h1
  have hl2 : xs.length = 2 := by simpa using hlen
  rw [List.getElem?_eq_getElem (by omega)] at h0 h1
  obtain ⟨ys, m, _, _, _, hlen2, hy⟩ := DataW.trod_struct hs h0
  have hm2 : ys.length = 3 := by simpa using hlen2
  have a0 := hy 0 g0 rfl
  have a1 := hy 1 g1 rfl
  have a2 := hy 2 g2 rfl
  rw [hg.1, hg.2.1, hci] at a0
  rw [hg.2.2.1, hg.2.2.2.1, hci] at a1
  rw [hg.2.2.2.2.1, hg.2.2.2.2.2, hci] at a2
  have q0 : ([c0, c1, c2].drop 0).take 1 = [c0] := rfl
  have q1 : ([c0, c1, c2].drop 1).take 1 = [c1] := rfl
  have q2 : ([c0, c1, c2].drop 2).take 1 = [c2] := rfl
  rw [q0, List.getElem?_eq_getElem (by omega)] at a0
  rw [q1, List.getElem?_eq_getElem (by omega)] at a1
  rw [q2, List.getElem?_eq_getElem (by omega)] at a2
  obtain ⟨x, ex, _, wx⟩ := DataW.trod_int hi a0
  obtain ⟨y, ey, _, wy⟩ := DataW.trod_int hi a1
  obtain ⟨z, ez, _, wz⟩ := DataW.trod_int hi a2
  simp at ex ey ez
  subst ex ey ez
  obtain ⟨a3, len, cap, e3⟩ := Go.Joins.slice_form hd h1
  simp at e3
  subst e3
  rcases open_ints hd he hce h1 with ⟨hcs, _⟩ | ⟨a, len', cap', zs, hcs, _, hl, hm, hz, _, hcell, hwz⟩
  · simp at hcs
    obtain ⟨rfl, rfl, rfl⟩ := hcs
    exact ⟨x, y, z, none, [], 0, rfl, wx, wy, wz, by simp, by simp, by simp, Rd.nil⟩
  · simp at hcs
    obtain ⟨rfl, rfl, rfl⟩ := hcs
    have hlz : len ≤ zs.length := by rw [hz]; split <;> omega
    refine ⟨x, y, z, some a, zs.take len, cap, ?_, wx, wy, wz, ?_, hm, fun n hn => hwz n (List.mem_of_mem_take hn), fun j u hu => ?_⟩
    · rw [List.length_take, Nat.min_eq_left hlz]
    · rw [List.length_take, Nat.min_eq_left hlz]; exact hl
    · rw [List.getElem?_map, List.getElem?_take] at hu
      split at hu
      · rename_i hj
        have hjz : j < zs.length := by omega
        rw [List.getElem?_eq_getElem hjz] at hu
        simp only [Option.map_some, Option.some.injEq] at hu
        subst hu
        have h9 := hcell j hjz
        rw [List.getD_eq_getElem?_getD, List.getElem?_eq_getElem hjz, Option.getD_some] at h9
        exact ⟨a, rfl, by have := block_lt h9; rwa [add_block] at this, h9⟩
      · simp at hu
end
end Go.Proofs.Ytmnhcmkcdchmkaa.Kit
