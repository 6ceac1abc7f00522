/- Slices of arrays of two integers: how they are opened, and what they read as. -/
import Derived.Test.YtaoadgolplnedaaOpenRows
namespace Go.Proofs.Ytaoadgolplnedaa.Kit
open Go Go.ChangeShapes Go.WideShapes Go.ChangeAt Go.RowKit Go.Deep
set_option linter.unusedVariables false

/-- Two integers each, one behind the other, from an address on. -/
def Twos (w : World) (B : Nat) (k : IntKind) (A : Option Addr) (n : Nat) (W : Nat → Nat → Int) : Prop :=
  ∀ j, j < n → ∃ b o, A = some ⟨b, o, none⟩ ∧ b < B ∧ w.rangeAt b (o + j * 2) [.int k (W j 0), .int k (W j 1)]
section
variable {H : Type} {enc : TypeId × Value → H} {P : Program} {w : World} {base b0 : Nat} {spare : Nat → Bool} {held : Bool} {r : Reach}
/-- The arrays of two integers each of a slice, one behind the other. -/
theorem trod_two {t e : TypeId} {k : IntKind} {fuel : Nat} {cs : List Value} {x : DataW H × List MemPlace} (ht : P.underlying t = some (.array 2 e)) (he : P.underlying e = some (.int k)) (hce : P.cellsOf e = 1) (hl : cs.length = 2)
    (h : DataW.trod enc P w base spare held fuel t cs = some x) : ∃ a b : Int, cs = [.int k a, .int k b] ∧ (Lit.int k a).wf = true ∧ (Lit.int k b).wf = true := by
  obtain ⟨xs, n, _, _, _, hlen, hg⟩ := DataW.trod_array ht h
  match cs, hl with
  | [c0, c1], _ =>
    have h0 := hg 0 (by omega)
    have h1 := hg 1 (by omega)
    rw [hce] at h0 h1
    have e0 : ([c0, c1].drop (0 * 1)).take 1 = [c0] := rfl
    have e1 : ([c0, c1].drop (1 * 1)).take 1 = [c1] := rfl
    rw [e0, List.getElem?_eq_getElem (by omega)] at h0
    rw [e1, List.getElem?_eq_getElem (by omega)] at h1
    obtain ⟨a, ha, _, wa⟩ := DataW.trod_int he h0
    obtain ⟨b, hb, _, wb⟩ := DataW.trod_int he h1
    simp at ha hb
    subst ha hb
    exact ⟨a, b, rfl, wa, wb⟩
theorem open_twos {t e i : TypeId} {k : IntKind} {v : Value} {d : DataW H} {ps : List MemPlace} (ht : P.underlying t = some (.slice e)) (he : P.underlying e = some (.array 2 i)) (hi : P.underlying i = some (.int k)) (hc : P.cellsOf e = 2) (hci : P.cellsOf i = 1)
    (h0 : (Lit.int k 0).wf = true) (hval : Value.okWide P w r b0 t v) (hd : DataW.Trod enc P w base spare held t v d ps) :
    ∃ (A : Option Addr) (W : Nat → Nat → Int) (n c : Nat), v = .slice A n c ∧ n ≤ c ∧ c ≤ maxLen ∧ (∀ j i, (Lit.int k (W j i)).wf = true) ∧ Twos w w.heap.size k A n W := by
  obtain ⟨a0, len, cap, rfl⟩ := okWide_slice ht hval
  obtain ⟨fuel, hf⟩ := hd
  rcases DataW.trod_slice ht hf with ⟨hcs, _⟩ | ⟨a, len', cap', elems, rest, n, _, hcs, _, hb, hl, hm, hlen, hel, hsp, hns⟩
  · simp [Value.cells] at hcs
    obtain ⟨rfl, rfl, rfl⟩ := hcs
    exact ⟨none, fun _ _ => 0, 0, 0, rfl, by simp, by simp, fun _ _ => h0, fun j hj => by omega⟩
  · simp [Value.cells] at hcs
    obtain ⟨rfl, rfl, rfl⟩ := hcs
    have plain : 0 < len → ∃ b o, a = ⟨b, o, none⟩ := by
      intro hpos
      have h1 := hel 0 hpos
      rw [List.getElem?_eq_getElem (by omega), hc, Option.bind_eq_some_iff] at h1
      obtain ⟨cs', hcs, hy⟩ := h1
      obtain ⟨_, hl3, hcell⟩ := World.cells?_some hcs
      obtain ⟨x, y, rfl, _⟩ := trod_two he hi hci hl3 hy
      have hc0 := hcell 0 (by omega)
      obtain ⟨b, o, s⟩ := a
      have hs : s = none := by
        have h8 := World.cell?_spot (show w.cell? (((⟨b, o, s⟩ : Addr).add (0 * 2)).add 0) = some (Value.int k x) from hc0)
        simpa [Addr.add] using h8
      exact ⟨b, o, by rw [hs]⟩
    have each : ∀ j, j < len → ∃ (f : Nat → Int) (u : Unit), (∀ i, (Lit.int k (f i)).wf = true) ∧ ∃ b o, a = ⟨b, o, none⟩ ∧ b < w.heap.size ∧ w.rangeAt b (o + j * 2) [.int k (f 0), .int k (f 1)] := by
      intro j hj
      have h1 := hel j hj
      rw [List.getElem?_eq_getElem (by omega), hc, Option.bind_eq_some_iff] at h1
      obtain ⟨cs', hcs, hy⟩ := h1
      obtain ⟨_, hl3, hcell⟩ := World.cells?_some hcs
      obtain ⟨x, y, rfl, wx, wy⟩ := trod_two he hi hci hl3 hy
      have hc0 := hcell 0 (by omega)
      have hc1 := hcell 1 (by omega)
      obtain ⟨b, o, rfl⟩ := plain (by omega)
      rw [Go.WideShapes.add_plain, Go.WideShapes.add_plain] at hc0 hc1
      refine ⟨fun i => match i with | 0 => x | _ => y, (), fun i => ?_, b, o, rfl, by have h9 : w.cell? ⟨b, o + j * 2, none⟩ = some (.int k x) := hc0; exact block_lt h9, fun q v hq => ?_⟩
      · match i with
        | 0 => exact wx
        | _ + 1 => exact wy
      · match q, hq with
        | 0, hq => rw [← hq]; exact hc0
        | 1, hq => rw [← hq]; exact hc1
    obtain ⟨fs, us, g1, g2, g3⟩ := pick len each
    refine ⟨some a, fun j => fs.getD j (fun _ => 0), len, cap, rfl, hl, hm, fun j i => ?_, fun j hj => ?_⟩
    · show (Lit.int k ((fs.getD j (fun _ => 0)) i)).wf = true
      rw [List.getD_eq_getElem?_getD]
      rcases Nat.lt_or_ge j fs.length with h | h
      · rw [List.getElem?_eq_getElem h]
        exact (g3 j _ () (List.getElem?_eq_getElem h) (by rw [List.getElem?_eq_getElem (by omega)])).1 i
      · rw [List.getElem?_eq_none h]; exact h0
    · have h : j < fs.length := by omega
      obtain ⟨_, b, o, rfl, hb, hr⟩ := g3 j _ () (List.getElem?_eq_getElem h) (by rw [List.getElem?_eq_getElem (by omega)])
      refine ⟨b, o, rfl, hb, ?_⟩
      simp only [List.getD_eq_getElem?_getD, List.getElem?_eq_getElem h, Option.getD_some]
      exact hr
end
end Go.Proofs.Ytaoadgolplnedaa.Kit
