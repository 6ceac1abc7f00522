/- Layer 23 (turn), the code: eight views, how they stand in memory. -/
import Derived.Test.YtmjcjdgdpecpjaaTurnBack
import Derived.Test.YtmjcjdgdpecpjaaTurnKnown
namespace Go.Proofs.Ytmjcjdgdpecpjaa.CTurn
open Go Go.ChangeShapes Go.WideShapes Go.ChangeAt Go.RowKit Go.Deep
open Plain CSat CShape CTensor CPad FloatNum
set_option linter.unusedVariables false

/-- tensors in a row, cell by cell. -/
def viewV (P Q : Nat → Int) (C : Int) (As : Nat → Option Addr) (n : Nat) (cs : Nat → Nat) : Nat → List Value
  | 0 => []
  | k + 1 => viewV P Q C As n cs k ++ [.int .i64 (P k), .int .i64 (Q k), .int .i64 C, .slice (As k) n (cs k)]
theorem viewV_len (P Q : Nat → Int) (C : Int) (As : Nat → Option Addr) (n : Nat) (cs : Nat → Nat) (k : Nat) : (viewV P Q C As n cs k).length = k * 4 := by
  induction k with
  | zero => rfl
  | succ k ih => simp only [viewV, List.length_append, ih, List.length_cons, List.length_nil]; omega
theorem viewV_same (P Q : Nat → Int) (C : Int) {As Bs : Nat → Option Addr} (n : Nat) {cs ds : Nat → Nat} {k : Nat} (h : ∀ i, i < k → As i = Bs i ∧ cs i = ds i) : viewV P Q C As n cs k = viewV P Q C Bs n ds k := by
  induction k with
  | zero => rfl
  | succ k ih => simp only [viewV]; rw [ih (fun i hi => h i (by omega)), (h k (by omega)).1, (h k (by omega)).2]
theorem viewV_at (P Q : Nat → Int) (C : Int) (As : Nat → Option Addr) (n : Nat) (cs : Nat → Nat) {k i : Nat} (h : i < k) : (viewV P Q C As n cs k)[i * 4]? = some (.int .i64 (P i)) ∧ (viewV P Q C As n cs k)[i * 4 + 1]? = some (.int .i64 (Q i)) ∧ (viewV P Q C As n cs k)[i * 4 + 2]? = some (.int .i64 C) ∧ (viewV P Q C As n cs k)[i * 4 + 3]? = some (.slice (As i) n (cs i)) := by
  induction k with
  | zero => omega
  | succ k ih =>
    have hl := viewV_len P Q C As n cs k
    by_cases e : i = k
    · subst e
      simp only [viewV]
      rw [List.getElem?_append_right (by omega), List.getElem?_append_right (by omega), List.getElem?_append_right (by omega), List.getElem?_append_right (by omega), hl, Nat.sub_self, show i * 4 + 1 - i * 4 = 1 by omega, show i * 4 + 2 - i * 4 = 2 by omega, show i * 4 + 3 - i * 4 = 3 by omega]
      exact ⟨rfl, rfl, rfl, rfl⟩
    · obtain ⟨h1, h2, h3, h4⟩ := ih (by omega)
      simp only [viewV]
      rw [List.getElem?_append_left (by omega), List.getElem?_append_left (by omega), List.getElem?_append_left (by omega), List.getElem?_append_left (by omega)]
      exact ⟨h1, h2, h3, h4⟩
/-- a row that reads, and does not lie in a value's own block. -/
def RowV (w : World) (v : Value) (A : Option Addr) (xs : List Value) : Prop := ∀ (j : Nat) (u : Value), xs[j]? = some u → ∃ ad : Addr, A = some ad ∧ v.ownBlock ≠ some ad.block ∧ ad.block < w.heap.size ∧ w.cell? (ad.add j) = some u
theorem RowV.rd {w : World} {v : Value} {A : Option Addr} {xs : List Value} (h : RowV w v A xs) : Kit.Rd w w.heap.size A xs := fun j u hu => by
  obtain ⟨ad, e, _, hb, hc⟩ := h j u hu
  exact ⟨ad, e, hb, hc⟩
theorem RowV.below {w w' : World} {v : Value} {A : Option Addr} {xs : List Value} (h : RowV w v A xs) (hb : Below w.heap.size w w') : RowV w' v A xs := fun j u hu => by
  obtain ⟨ad, e, hn, hl, hc⟩ := h j u hu
  exact ⟨ad, e, hn, Nat.lt_of_lt_of_le hl hb.size, (hb.cell (p := ad.add j) (by rw [Kit.add_block]; exact hl)).trans hc⟩
theorem RowV.grown {w w' : World} {v v' : Value} {A : Option Addr} {xs : List Value} (h : RowV w v A xs) (hg : w.grownBy w' v.ownBlock) (hv : v'.ownBlock = v.ownBlock ∨ v'.ownBlock = some w.heap.size) : RowV w' v' A xs := fun j u hu => by
  obtain ⟨ad, e, hn, hl, hc⟩ := h j u hu
  refine ⟨ad, e, ?_, Nat.lt_of_lt_of_le hl hg.size, ?_⟩
  · rcases hv with hv | hv
    · rw [hv]; exact hn
    · rw [hv]; intro he; injection he with he; omega
  · rw [← hc]
    exact World.cell?_of_block (by rw [Kit.add_block]; exact hg.block _ hl (fun he => hn he.symm))
theorem RowV.of_own {w : World} {base T m n c : Nat} {A : Option Addr} {xs : List Value} {v : Value} (h : w.ownsRow base T 1 (.slice A n c) m xs) (hv : ∀ k, v.ownBlock = some k → k < base) : RowV w v A xs := fun j u hu => by
  obtain ⟨A', c', e, _, _, hr⟩ := Kit.own_rd h
  cases e
  obtain ⟨ad, rfl, hl, hc⟩ := hr j u hu
  refine ⟨ad, rfl, fun he => ?_, hl, hc⟩
  have := hv _ he
  have := Kit.own_block_ge h ad.block rfl
  omega
theorem RowV.of_rd {w : World} {B : Nat} {A : Option Addr} {xs : List Value} {v : Value} (h : Kit.Rd w B A xs) (hB : B ≤ w.heap.size) (hv : ∀ k, v.ownBlock = some k → B ≤ k) : RowV w v A xs := fun j u hu => by
  obtain ⟨ad, rfl, hl, hc⟩ := h j u hu
  refine ⟨ad, rfl, fun he => ?_, by omega, hc⟩
  have := hv _ he
  omega
/-- what a call that appends leaves as it was. -/
theorem app_cell {w w' : World} {v : Value} (hg : w.grownBy w' v.ownBlock) {b o : Nat} (hb : b < w.heap.size) (hv : v.ownBlock ≠ some b) : w'.cell? ⟨b, o, none⟩ = w.cell? ⟨b, o, none⟩ :=
  World.cell?_of_block (hg.block b hb (fun he => hv he.symm))
/-- k views. -/
def VAt (G : Nat) (P Q : Nat → Int) (C : Int) (n : Nat) (ys : Nat → List Int) (k : Nat) (v : Value) (w : World) : Prop :=
  ∃ (As : Nat → Option Addr) (cs : Nat → Nat), w.ownsRow G 26 4 v k (viewV P Q C As n cs k) ∧ ∀ i, i < k → RowV w v (As i) (I8s (ys i)) ∧ n ≤ cs i
theorem VAt.below {G : Nat} {P Q : Nat → Int} {C : Int} {n : Nat} {ys : Nat → List Int} {k : Nat} {v : Value} {w w' : World} (h : VAt G P Q C n ys k v w) (hb : Below w.heap.size w w') : VAt G P Q C n ys k v w' := by
  obtain ⟨As, cs, h1, h2⟩ := h
  exact ⟨As, cs, Kit.own_below h1 hb, fun i hi => ⟨(h2 i hi).1.below hb, (h2 i hi).2⟩⟩
theorem VAt.lt {G : Nat} {P Q : Nat → Int} {C : Int} {n : Nat} {ys : Nat → List Int} {k : Nat} {v : Value} {w : World} (h : VAt G P Q C n ys k v w) : ∀ b, v.ownBlock = some b → G ≤ b ∧ b < w.heap.size := fun b hb => by
  obtain ⟨As, cs, h1, h2⟩ := h
  exact ⟨Kit.own_block_ge h1 b hb, own_block_lt h1 b hb⟩
theorem VAt.base {G G' : Nat} {P Q : Nat → Int} {C : Int} {n : Nat} {ys : Nat → List Int} {k : Nat} {v : Value} {w : World} (h : VAt G P Q C n ys k v w) (hG : G' ≤ G) : VAt G' P Q C n ys k v w := by
  obtain ⟨As, cs, h1, h2⟩ := h
  exact ⟨As, cs, Kit.own_base h1 hG, h2⟩
theorem VAt.zero (G : Nat) (P Q : Nat → Int) (C : Int) (n : Nat) (ys : Nat → List Int) (w : World) : VAt G P Q C n ys 0 (.slice none 0 0) w := ⟨fun _ => none, fun _ => 0, ⟨rfl, .inl ⟨rfl, rfl⟩⟩, fun i hi => by omega⟩
theorem VAt.push {G : Nat} {P Q : Nat → Int} {C : Int} {n : Nat} {ys : Nat → List Int} {k : Nat} {v v' : Value} {w w' : World} {As : Nat → Option Addr} {cs : Nat → Nat} (h2 : ∀ i, i < k → RowV w v (As i) (I8s (ys i)) ∧ n ≤ cs i) {A : Option Addr} {c : Nat} (hA : RowV w v A (I8s (ys k))) (hc : n ≤ c)
    (ho : w'.ownsRow G 26 4 v' (k + 1) (viewV P Q C As n cs k ++ [.int .i64 (P k), .int .i64 (Q k), .int .i64 C, .slice A n c])) (hg : w.grownBy w' v.ownBlock) (hv : v'.ownBlock = v.ownBlock ∨ v'.ownBlock = some w.heap.size) : VAt G P Q C n ys (k + 1) v' w' := by
  refine ⟨fun i => if i = k then A else As i, fun i => if i = k then c else cs i, ?_, fun i hi => ?_⟩
  · simp only [viewV]
    rw [viewV_same P Q C n (Bs := As) (ds := cs) (fun i hi => ⟨if_neg (by omega), if_neg (by omega)⟩)]
    simpa using ho
  · by_cases e : i = k
    · subst e
      simp only [if_pos]
      exact ⟨hA.grown hg hv, hc⟩
    · simp only [if_neg e]
      have := h2 i (by omega)
      exact ⟨this.1.grown hg hv, this.2⟩
theorem info_tens : (Try.prog.info? 26).map (fun i => (i.zero, i.size, i.bytes)) = some (some (.agg #[.int .i64 0, .int .i64 0, .int .i64 0, .slice none 0 0]), 4, 48) := by kernel_rfl
theorem tens_one (P Q C : Int) (A : Option Addr) (n c : Nat) : ∀ u ∈ [Value.int .i64 P, .int .i64 Q, .int .i64 C, .slice A n c], u.oneCell' = true := by
  intro u hu
  simp only [List.mem_cons, List.not_mem_nil, or_false] at hu
  rcases hu with rfl | rfl | rfl | rfl <;> rfl
/-- the two sides of a tensor in a row. -/
def SideAt (q : Nat) (a b d : Int) (n : Nat) (AS : Nat → Option Addr) (CS : Nat → Nat) (w : World) : Prop := ∀ s, s < 2 → w.cell? ⟨q, s * 4, none⟩ = some (.int .i64 a) ∧ w.cell? ⟨q, s * 4 + 1, none⟩ = some (.int .i64 b) ∧ w.cell? ⟨q, s * 4 + 2, none⟩ = some (.int .i64 d) ∧ w.cell? ⟨q, s * 4 + 3, none⟩ = some (.slice (AS s) n (CS s))
theorem SideAt.below {q : Nat} {a b d : Int} {n : Nat} {AS : Nat → Option Addr} {CS : Nat → Nat} {w w' : World} (h : SideAt q a b d n AS CS w) {B : Nat} (hq : q < B) (hb : Below B w w') : SideAt q a b d n AS CS w' := fun s hs => by
  obtain ⟨h1, h2, h3, h4⟩ := h s hs
  exact ⟨(hb.cell (p := ⟨q, s * 4, none⟩) hq).trans h1, (hb.cell (p := ⟨q, s * 4 + 1, none⟩) hq).trans h2, (hb.cell (p := ⟨q, s * 4 + 2, none⟩) hq).trans h3, (hb.cell (p := ⟨q, s * 4 + 3, none⟩) hq).trans h4⟩
theorem SideAt.app {q : Nat} {a b d : Int} {n : Nat} {AS : Nat → Option Addr} {CS : Nat → Nat} {w w' : World} (h : SideAt q a b d n AS CS w) {v : Value} (hg : w.grownBy w' v.ownBlock) (hq : q < w.heap.size) (hv : v.ownBlock ≠ some q) : SideAt q a b d n AS CS w' := fun s hs => by
  obtain ⟨h1, h2, h3, h4⟩ := h s hs
  exact ⟨(app_cell hg hq hv).trans h1, (app_cell hg hq hv).trans h2, (app_cell hg hq hv).trans h3, (app_cell hg hq hv).trans h4⟩
theorem BoxAt.app {q : Nat} {H W C : Int} {A : Option Addr} {n c : Nat} {w w' : World} (h : BoxAt q H W C A n c w) {v : Value} (hg : w.grownBy w' v.ownBlock) (hq : q < w.heap.size) (hv : v.ownBlock ≠ some q) : BoxAt q H W C A n c w' := by
  obtain ⟨h1, h2, h3, h4⟩ := h
  exact ⟨(app_cell hg hq hv).trans h1, (app_cell hg hq hv).trans h2, (app_cell hg hq hv).trans h3, (app_cell hg hq hv).trans h4⟩
theorem SideAt.new (a b d : Int) (n : Nat) (A0 A1 : Option Addr) (c0 c1 : Nat) (w : World) : SideAt w.heap.size a b d n (fun s => if s = 0 then A0 else A1) (fun s => if s = 0 then c0 else c1) (w.alloc (.cells #[.int .i64 a, .int .i64 b, .int .i64 d, .slice A0 n c0, .int .i64 a, .int .i64 b, .int .i64 d, .slice A1 n c1] 26)) := fun s hs => by
  have k : ∀ j, (w.alloc (.cells #[.int .i64 a, .int .i64 b, .int .i64 d, .slice A0 n c0, .int .i64 a, .int .i64 b, .int .i64 d, .slice A1 n c1] 26)).cell? ⟨w.heap.size, j, none⟩ = (#[.int .i64 a, .int .i64 b, .int .i64 d, .slice A0 n c0, .int .i64 a, .int .i64 b, .int .i64 d, .slice A1 n c1] : Array Value)[j]? := fun j => Kit.new_cell _ _ _ _
  have : s = 0 ∨ s = 1 := by omega
  rcases this with rfl | rfl
  · exact ⟨k 0, k 1, k 2, k 3⟩
  · exact ⟨k 4, k 5, k 6, k 7⟩
end Go.Proofs.Ytmjcjdgdpecpjaa.CTurn
