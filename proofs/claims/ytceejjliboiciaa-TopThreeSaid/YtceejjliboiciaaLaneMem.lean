/- Layer 16 (lane): how lanes lie in memory while they grow. -/
import Derived.Test.YtceejjliboiciaaLaneNum
import Derived.Test.YtceejjliboiciaaConvOf
namespace Go.Proofs.Ytceejjliboiciaa.CLane
open Go Go.ChangeShapes Go.WideShapes Go.ChangeAt Go.RowKit
open Plain CSat CShape CTensor CConv FloatNum CFour CWheel
set_option linter.unusedVariables false

abbrev I16w (zs : List Int) : List Value := zs.map (.int .i16)
theorem rd_block {w w' : World} {g : Nat} {xs : List Value} (h : Kit.Rd w (g + 1) (some ⟨g, 0, none⟩) xs) (hb : w'.heap[g]? = w.heap[g]?) : Kit.Rd w' (g + 1) (some ⟨g, 0, none⟩) xs := fun j u hu => by
  obtain ⟨ad, e, hlt, hc⟩ := h j u hu
  refine ⟨ad, e, hlt, ?_⟩
  cases e
  have : ((⟨g, 0, none⟩ : Addr).add j).block = g := Kit.add_block _ _
  have hb' : w'.heap[((⟨g, 0, none⟩ : Addr).add j).block]? = w.heap[((⟨g, 0, none⟩ : Addr).add j).block]? := by rw [this]; exact hb
  exact (World.cell?_of_block hb').trans hc
theorem grown_setCell (w : World) (p : Addr) (v : Value) : w.grownBy (w.setCell p v) (some p.block) :=
  ⟨rfl, rfl, rfl, by simp, fun k _ hk => Below.heap_setCell _ _ _ k (fun e => hk (by rw [e]))⟩
/-- lanes: the slice of the rows (v1, its cells vs), the slice of the places (v2); all that they own is ok, and apart. -/
def LanesV (B0 : Nat) (ok : Nat → Prop) (M : Nat) (v1 v2 : Value) (vs : List Value) (rows : List (List Int)) (ps : List Int) (w : World) : Prop :=
  vs.length = rows.length ∧ w.ownsRow B0 62 1 v1 rows.length vs ∧ w.ownsRow B0 3 1 v2 ps.length (I64v ps) ∧
  (∀ g, v1.ownBlock = some g → ok g ∧ v2.ownBlock ≠ some g) ∧ (∀ g, v2.ownBlock = some g → ok g) ∧
  ∀ (i : Nat) (row : List Int), rows[i]? = some row → ∃ g, vs[i]? = some (.slice (some ⟨g, 0, none⟩) M M) ∧ row.length = M ∧ ok g ∧ g < w.heap.size ∧ v1.ownBlock ≠ some g ∧ v2.ownBlock ≠ some g ∧ Kit.Rd w (g + 1) (some ⟨g, 0, none⟩) (I16w row)
def LanesAt (B0 : Nat) (ok : Nat → Prop) (M : Nat) (v1 v2 : Value) (rows : List (List Int)) (ps : List Int) (w : World) : Prop := ∃ vs, LanesV B0 ok M v1 v2 vs rows ps w
section
variable {B0 : Nat} {ok : Nat → Prop} {M : Nat} {v1 v2 : Value} {vs : List Value} {rows : List (List Int)} {ps : List Int} {w w' : World}
theorem LanesV.start (B0 : Nat) (ok : Nat → Prop) (M : Nat) (w : World) : LanesV B0 ok M (.slice none 0 0) (.slice none 0 0) [] [] [] w := by
  refine ⟨rfl, own_nil _ _ _ _, own_nil _ _ _ _, fun g h => ?_, fun g h => ?_, fun i row h => ?_⟩
  · exact absurd h (by simp [Value.ownBlock])
  · exact absurd h (by simp [Value.ownBlock])
  · simp at h
theorem LanesV.grown (h : LanesV B0 ok M v1 v2 vs rows ps w) {r : Option Nat} (hg : w.grownBy w' r) (h1 : ∀ g, r = some g → v1.ownBlock ≠ some g ∧ v2.ownBlock ≠ some g ∧ ¬ (∃ (i : Nat), vs[i]? = some (.slice (some ⟨g, 0, none⟩) M M))) : LanesV B0 ok M v1 v2 vs rows ps w' := by
  obtain ⟨a, b, c, d, e, f⟩ := h
  have ne : ∀ v : Value, (∀ g, r = some g → v.ownBlock ≠ some g) → v.ownBlock = none ∨ v.ownBlock ≠ r := fun v hv => by
    cases hr : r with
    | none => cases hb : v.ownBlock with
      | none => exact .inl rfl
      | some g => exact .inr (by simp)
    | some g => exact .inr (hv g hr)
  refine ⟨a, b.kept hg (ne v1 fun g hr => (h1 g hr).1), c.kept hg (ne v2 fun g hr => (h1 g hr).2.1), d, e, fun i row hi => ?_⟩
  obtain ⟨g, f1, f2, f3, f4, f5, f6, f7⟩ := f i row hi
  exact ⟨g, f1, f2, f3, Nat.lt_of_lt_of_le f4 hg.size, f5, f6, rd_block f7 (hg.block g f4 (fun e => (h1 g e.symm).2.2 ⟨i, f1⟩))⟩
theorem LanesV.below (h : LanesV B0 ok M v1 v2 vs rows ps w) (hb : Below w.heap.size w w') : LanesV B0 ok M v1 v2 vs rows ps w' :=
  h.grown (r := none) ⟨hb.os, hb.tape, hb.output, hb.size, fun k hk _ => hb.block k hk⟩ (fun g e => by cases e)
/-- a cell of a block that no lane may own is set. -/
theorem LanesV.set (h : LanesV B0 ok M v1 v2 vs rows ps w) {p : Addr} (hp : ¬ ok p.block) (v : Value) : LanesV B0 ok M v1 v2 vs rows ps (w.setCell p v) := by
  refine h.grown (grown_setCell w p v) (fun g e => ?_)
  obtain rfl : p.block = g := Option.some.inj e
  refine ⟨fun e1 => hp (h.2.2.2.1 _ e1).1, fun e2 => hp (h.2.2.2.2.1 _ e2), fun ⟨i, hi⟩ => ?_⟩
  have hlt : i < rows.length := by rw [← h.1]; exact (List.getElem?_eq_some_iff.1 hi).1
  obtain ⟨g', f1, _, f3, _⟩ := h.2.2.2.2.2 i _ (List.getElem?_eq_getElem hlt)
  rw [hi] at f1
  simp at f1
  exact hp (f1 ▸ f3)
theorem own_block_lt {e : TypeId} {size n : Nat} {v : Value} {xs : List Value} (h : w.ownsRow B0 e size v n xs) {g : Nat} (hg : v.ownBlock = some g) : g < w.heap.size := by
  rcases h.2 with ⟨rfl, _⟩ | ⟨g', cap, cur, rfl, _, hh, _⟩
  · cases hg
  · obtain rfl : g' = g := Option.some.inj hg
    rcases Nat.lt_or_ge g' w.heap.size with h | h
    · exact h
    · rw [Array.getElem?_eq_none h] at hh; cases hh
/-- a row is put behind the others. -/
theorem LanesV.push1 (h : LanesV B0 ok M v1 v2 vs rows ps w) {v1' : Value} {gr : Nat} {row : List Int} (hl : row.length = M) (hok : ok gr) (hlt : gr < w.heap.size) (n1 : v1.ownBlock ≠ some gr) (n2 : v2.ownBlock ≠ some gr) (hrd : Kit.Rd w (gr + 1) (some ⟨gr, 0, none⟩) (I16w row))
    (ho : w'.ownsRow B0 62 1 v1' (rows.length + 1) (vs ++ [.slice (some ⟨gr, 0, none⟩) M M])) (hg : w.grownBy w' v1.ownBlock) (hat : v1'.ownBlock = v1.ownBlock ∨ v1'.ownBlock = some w.heap.size) (hos : ok w.heap.size) :
    LanesV B0 ok M v1' v2 (vs ++ [.slice (some ⟨gr, 0, none⟩) M M]) (rows ++ [row]) ps w' := by
  obtain ⟨a, b, c, d, e, f⟩ := h
  have hv2 : ∀ g, v2.ownBlock = some g → g < w.heap.size := fun g hg2 => own_block_lt c hg2
  have hv2n : v2.ownBlock = none ∨ v2.ownBlock ≠ v1.ownBlock := by
    cases hb : v1.ownBlock with
    | none => cases hb2 : v2.ownBlock with
      | none => exact .inl rfl
      | some g => exact .inr (by simp)
    | some g => exact .inr (d g hb).2
  have hne : ∀ g, g < w.heap.size → v1.ownBlock ≠ some g → v1'.ownBlock ≠ some g := fun g hlt2 h1 e1 => by
    rcases hat with h2 | h2
    · exact h1 (h2 ▸ e1)
    · rw [h2] at e1; have := Option.some.inj e1; omega
  refine ⟨by simp [a], by simpa using ho, c.kept hg hv2n, fun g hg1 => ?_, e, fun i r hi => ?_⟩
  · rcases hat with h2 | h2
    · rw [h2] at hg1; exact d g hg1
    · rw [h2] at hg1
      obtain rfl : w.heap.size = g := Option.some.inj hg1
      exact ⟨hos, fun e2 => absurd (hv2 _ e2) (Nat.lt_irrefl _)⟩
  · rcases Nat.lt_or_ge i rows.length with hi2 | hi2
    · rw [List.getElem?_append_left hi2] at hi
      obtain ⟨g, f1, f2, f3, f4, f5, f6, f7⟩ := f i r hi
      exact ⟨g, by rw [List.getElem?_append_left (by omega)]; exact f1, f2, f3, Nat.lt_of_lt_of_le f4 hg.size, hne g f4 f5, f6, rd_block f7 (hg.block g f4 (fun e => f5 e.symm))⟩
    · rw [List.getElem?_append_right hi2] at hi
      have hi3 : i - rows.length = 0 := by
        rcases Nat.lt_or_ge (i - rows.length) 1 with h8 | h8
        · omega
        · rw [List.getElem?_eq_none (by simpa using h8)] at hi; cases hi
      rw [hi3] at hi
      obtain rfl : row = r := by simpa using hi
      exact ⟨gr, by rw [List.getElem?_append_right (by omega), show i - vs.length = 0 by omega]; rfl, hl, hok, Nat.lt_of_lt_of_le hlt hg.size, hne gr hlt n1, n2, rd_block hrd (hg.block gr hlt (fun e => n1 e.symm))⟩
/-- a place is put behind the others. -/
theorem LanesV.push2 (h : LanesV B0 ok M v1 v2 vs rows ps w) {v2' : Value} {p : Int}
    (ho : w'.ownsRow B0 3 1 v2' (ps.length + 1) (I64v ps ++ [.int .i64 p])) (hg : w.grownBy w' v2.ownBlock) (hat : v2'.ownBlock = v2.ownBlock ∨ v2'.ownBlock = some w.heap.size) (hos : ok w.heap.size) :
    LanesV B0 ok M v1 v2' vs rows (ps ++ [p]) w' := by
  obtain ⟨a, b, c, d, e, f⟩ := h
  have hv1 : ∀ g, v1.ownBlock = some g → g < w.heap.size := fun g hg2 => own_block_lt b hg2
  have hv1n : v1.ownBlock = none ∨ v1.ownBlock ≠ v2.ownBlock := by
    cases hb : v1.ownBlock with
    | none => exact .inl rfl
    | some g => exact .inr (fun e2 => (d g hb).2 e2.symm)
  have hne : ∀ g, g < w.heap.size → v2.ownBlock ≠ some g → v2'.ownBlock ≠ some g := fun g hlt2 h1 e1 => by
    rcases hat with h2 | h2
    · exact h1 (h2 ▸ e1)
    · rw [h2] at e1; have := Option.some.inj e1; omega
  refine ⟨a, b.kept hg hv1n, ?_, fun g hg1 => ⟨(d g hg1).1, hne g (hv1 g hg1) (d g hg1).2⟩, fun g hg1 => ?_, fun i r hi => ?_⟩
  · have e9 : I64v (ps ++ [p]) = I64v ps ++ [.int .i64 p] := by show (ps ++ [p]).map _ = _; rw [List.map_append]; rfl
    rw [e9, List.length_append]; exact ho
  · rcases hat with h2 | h2
    · rw [h2] at hg1; exact e g hg1
    · rw [h2] at hg1
      obtain rfl : w.heap.size = g := Option.some.inj hg1
      exact hos
  · obtain ⟨g, f1, f2, f3, f4, f5, f6, f7⟩ := f i r hi
    exact ⟨g, f1, f2, f3, Nat.lt_of_lt_of_le f4 hg.size, f5, hne g f4 f6, rd_block f7 (hg.block g f4 (fun e => f6 e.symm))⟩
/-- lanes read as rows. -/
theorem LanesV.rowsAt (h : LanesV B0 ok M v1 v2 vs rows ps w) (hM : M ≤ maxLen) : ∃ A c, v1 = .slice A rows.length c ∧ rows.length ≤ c ∧ c ≤ maxLen ∧ Kit.RowsAt w w.heap.size .i16 A rows := by
  obtain ⟨a, b, c, d, e, f⟩ := h
  obtain ⟨A, cp, rfl, h1, h2, h3⟩ := Kit.own_rd b
  refine ⟨A, cp, rfl, h1, h2, vs, a, h3, fun i row hi => ?_⟩
  obtain ⟨g, f1, f2, f3, f4, _, _, f7⟩ := f i row hi
  exact ⟨_, M, M, f2, f1, Nat.le_refl _, hM, f7.more f4⟩
theorem LanesV.weaken (h : LanesV B0 ok M v1 v2 vs rows ps w) {ok' : Nat → Prop} (hk : ∀ g, g < w.heap.size → ok g → ok' g) : LanesV B0 ok' M v1 v2 vs rows ps w := by
  obtain ⟨a, b, c, d, e, f⟩ := h
  refine ⟨a, b, c, fun g hg => ⟨hk g (own_block_lt b hg) (d g hg).1, (d g hg).2⟩, fun g hg => hk g (own_block_lt c hg) (e g hg), fun i row hi => ?_⟩
  obtain ⟨g, f1, f2, f3, f4, f5, f6, f7⟩ := f i row hi
  exact ⟨g, f1, f2, hk g f4 f3, f4, f5, f6, f7⟩
end
end Go.Proofs.Ytceejjliboiciaa.CLane
