/- Numbers in an order: plain facts; no program is named here. -/
import Derived.Test.YtmnhcmkcdchmkaaPlain
namespace Go.Proofs.Ytmnhcmkcdchmkaa.CRank
set_option linter.unusedVariables false

def rowL (F : Nat → Int) (k : Nat) : List Int := (List.range k).map F
theorem rowL_len (F : Nat → Int) (k : Nat) : (rowL F k).length = k := by simp [rowL]
theorem rowL_at (F : Nat → Int) {n i : Nat} (h : i < n) : (rowL F n)[i]? = some (F i) := by simp [rowL, h]
theorem rowL_congr {F G : Nat → Int} {n : Nat} (h : ∀ i, i < n → F i = G i) : rowL F n = rowL G n := by
  unfold rowL
  exact List.map_congr_left fun i hi => h i (by simpa using hi)

/-- does the number at k come ahead of the number at i? -/
def ahd (G : Nat → Int) (k i : Nat) : Bool := decide (G i < G k) || (decide (G k = G i) && decide (k < i))
theorem ahd_irr (G : Nat → Int) (i : Nat) : ahd G i i = false := by simp [ahd]
theorem ahd_trans {G : Nat → Int} {a b c : Nat} (h1 : ahd G a b = true) (h2 : ahd G b c = true) : ahd G a c = true := by
  simp [ahd] at *; omega
theorem ahd_asym {G : Nat → Int} {a b : Nat} (h1 : ahd G a b = true) : ahd G b a = false := by
  simp [ahd] at *; omega
theorem ahd_total {G : Nat → Int} {a b : Nat} (h : a ≠ b) : ahd G a b = true ∨ ahd G b a = true := by
  simp [ahd]; omega
theorem ahd_tot {G : Nat → Int} {a b : Nat} (h1 : ahd G a b = false) (h2 : ahd G b a = false) : a = b := by
  simp [ahd] at *; omega

/-- how many of the first n come ahead of the number at i. -/
def placeN (G : Nat → Int) (i : Nat) : Nat → Nat
  | 0 => 0
  | k + 1 => placeN G i k + (if ahd G k i then 1 else 0)
theorem placeN_yes {G : Nat → Int} {i k : Nat} (h : ahd G k i = true) : placeN G i (k + 1) = placeN G i k + 1 := by simp [placeN, h]
theorem placeN_no {G : Nat → Int} {i k : Nat} (h : ahd G k i = false) : placeN G i (k + 1) = placeN G i k := by simp [placeN, h]
theorem placeN_count (G : Nat → Int) (i n : Nat) : placeN G i n = (List.range n).countP (fun k => ahd G k i) := by
  induction n with
  | zero => rfl
  | succ k ih => rw [List.range_succ, List.countP_append, placeN, ih]; simp [List.countP_cons, List.countP_nil]
theorem placeN_le (G : Nat → Int) (i n : Nat) : placeN G i n ≤ n := by
  induction n with
  | zero => exact Nat.le_refl _
  | succ k ih => unfold placeN; split <;> omega
theorem placeN_none {G : Nat → Int} {i n : Nat} (h : ∀ k, k < n → ahd G k i = false) : placeN G i n = 0 := by
  induction n with
  | zero => rfl
  | succ k ih => rw [placeN_no (h k (by omega)), ih fun q hq => h q (by omega)]
theorem placeN_pos {G : Nat → Int} {i n b : Nat} (hb : b < n) (h : ahd G b i = true) : 0 < placeN G i n := by
  induction n with
  | zero => omega
  | succ k ih =>
    rcases Nat.lt_or_ge b k with h1 | h1
    · have := ih h1
      unfold placeN; split <;> omega
    · obtain rfl : b = k := by omega
      rw [placeN_yes h]; omega

/-! ### the greatest, one place left out -/
def grF (G : Nat → Int) (O : Int) : Nat → Int
  | 0 => -1
  | k + 1 => if (k : Int) ≠ O ∧ (grF G O k = -1 ∨ G (grF G O k).toNat < G k) then k else grF G O k
theorem grF_form (G : Nat → Int) (O : Int) (k : Nat) : grF G O k = -1 ∨ ∃ q : Nat, q < k ∧ grF G O k = q ∧ (q : Int) ≠ O := by
  induction k with
  | zero => exact .inl rfl
  | succ k ih =>
    unfold grF
    split
    · rename_i h
      exact .inr ⟨k, by omega, rfl, h.1⟩
    · rcases ih with h | ⟨q, h1, h2, h3⟩
      · exact .inl h
      · exact .inr ⟨q, by omega, h2, h3⟩
theorem grF_out {G : Nat → Int} {O : Int} {k : Nat} (h : (k : Int) = O) : grF G O (k + 1) = grF G O k := by
  show (if (k : Int) ≠ O ∧ (grF G O k = -1 ∨ G (grF G O k).toNat < G k) then (k : Int) else grF G O k) = grF G O k
  rw [if_neg (by simp [h])]
theorem grF_first {G : Nat → Int} {O : Int} {k : Nat} (h : (k : Int) ≠ O) (h1 : grF G O k = -1) : grF G O (k + 1) = k := by
  unfold grF; rw [if_pos ⟨h, .inl h1⟩]
theorem grF_more {G : Nat → Int} {O : Int} {k q : Nat} (h : (k : Int) ≠ O) (h1 : grF G O k = q) (h2 : G q < G k) : grF G O (k + 1) = k := by
  unfold grF; rw [if_pos ⟨h, .inr (by rw [h1]; exact h2)⟩]
theorem grF_less {G : Nat → Int} {O : Int} {k q : Nat} (h1 : grF G O k = q) (h2 : G k ≤ G q) : grF G O (k + 1) = q := by
  unfold grF; rw [if_neg (by rw [h1]; simp; omega), h1]
/-- none left out: the first of the greatest. -/
theorem grF_best (G : Nat → Int) (n : Nat) : ∃ b : Nat, b ≤ n ∧ grF G (-1) (n + 1) = b ∧ ∀ k, k < n + 1 → k ≠ b → ahd G b k = true := by
  induction n with
  | zero => exact ⟨0, Nat.le_refl _, by rw [grF_first (by omega) rfl], fun k hk hn => by omega⟩
  | succ n ih =>
    obtain ⟨b, hb, hg, ha⟩ := ih
    rcases Int.lt_or_le (G b) (G (n + 1)) with h | h
    · refine ⟨n + 1, Nat.le_refl _, grF_more (by omega) hg h, fun k hk hn => ?_⟩
      by_cases e : k = b
      · subst e; simp [ahd]; omega
      · have := ha k (by omega) e
        simp [ahd] at *; omega
    · refine ⟨b, by omega, grF_less hg h, fun k hk hn => ?_⟩
      by_cases e : k = n + 1
      · subst e; simp [ahd]; omega
      · exact ha k (by omega) hn
theorem grF_zero (G : Nat → Int) (n : Nat) : ∃ b : Nat, b ≤ n ∧ grF G (-1) (n + 1) = b ∧ placeN G b (n + 1) = 0 ∧ ∀ k, k < n + 1 → k ≠ b → 0 < placeN G k (n + 1) := by
  obtain ⟨b, hb, hg, ha⟩ := grF_best G n
  refine ⟨b, hb, hg, placeN_none fun k hk => ?_, fun k hk hn => placeN_pos (by omega) (ha k hk hn)⟩
  by_cases e : k = b
  · subst e; exact ahd_irr G k
  · exact ahd_asym (ha k hk e)
theorem grF_second (G : Nat → Int) {n b : Nat} (hn : 2 ≤ n) : ∃ q : Nat, q < n ∧ grF G (b : Int) n = q := by
  rcases grF_form G (b : Int) n with h | ⟨q, h1, h2, _⟩
  · exfalso
    have key : ∀ m, grF G (b : Int) m = -1 → ∀ k, k < m → k = b := by
      intro m
      induction m with
      | zero => intro _ k hk; omega
      | succ m ih =>
        intro hm k hk
        by_cases e : (m : Int) = b
        · rw [grF_out e] at hm
          by_cases e2 : k = m
          · omega
          · exact ih hm k (by omega)
        · exfalso
          rcases grF_form G (b : Int) m with h1 | ⟨q, _, h2, _⟩
          · rw [grF_first e h1] at hm; omega
          · rcases Int.lt_or_le (G q) (G m) with h3 | h3
            · rw [grF_more e h2 h3] at hm; omega
            · rw [grF_less h2 h3] at hm; omega
    have a := key n h 0 (by omega)
    have c := key n h 1 (by omega)
    omega
  · exact ⟨q, h1, h2⟩
theorem grF_congr {F G : Nat → Int} {O : Int} {n : Nat} (h : ∀ i j, i < n → j < n → (F i < F j ↔ G i < G j)) : ∀ k, k ≤ n → grF F O k = grF G O k := by
  intro k
  induction k with
  | zero => intro _; rfl
  | succ k ih =>
    intro hk
    have e := ih (by omega)
    rcases grF_form G O k with h1 | ⟨q, h0, h1, h2⟩
    · by_cases ho : (k : Int) = O
      · rw [grF_out ho, grF_out ho, e]
      · rw [grF_first ho h1, grF_first ho (e.trans h1)]
    · by_cases ho : (k : Int) = O
      · rw [grF_out ho, grF_out ho, e]
      · rcases Int.lt_or_le (G q) (G k) with h3 | h3
        · rw [grF_more ho h1 h3, grF_more ho (e.trans h1) ((h q k (by omega) (by omega)).2 h3)]
        · rw [grF_less h1 h3, grF_less (e.trans h1) (by have := h q k (by omega) (by omega); omega)]
/-- by how much the greatest is above the others. -/
def margF (G : Nat → Int) (n : Nat) : Int :=
  if grF G (grF G (-1) n) n = -1 then 0 else G (grF G (-1) n).toNat - G (grF G (grF G (-1) n) n).toNat
theorem grF_few {G : Nat → Int} {n : Nat} (h : n < 2) : grF G (grF G (-1) n) n = -1 := by
  match n, h with
  | 0, _ => rfl
  | 1, _ =>
    have e : grF G (-1) 1 = ((0 : Nat) : Int) := grF_first (by omega) rfl
    rw [e, grF_out rfl]; rfl
theorem margF_few {G : Nat → Int} {n : Nat} (h : n < 2) : margF G n = 0 := by
  unfold margF; rw [if_pos (grF_few h)]
theorem margF_yes {G : Nat → Int} {n b q : Nat} (hb : grF G (-1) n = b) (hq : grF G b n = q) : margF G n = G b - G q := by
  unfold margF; rw [hb, hq, if_neg (by omega)]; rfl

/-! ### the order -/
def pick {m : Nat} (G : Nat → Int) : List (Fin (m + 1)) := (List.finRange (m + 1)).mergeSort (fun x y => !ahd G y.val x.val)
def orderL (G : Nat → Int) : Nat → List Int
  | 0 => []
  | m + 1 => (pick (m := m) G).map fun x => ((x.val : Nat) : Int)
theorem pick_perm {m : Nat} (G : Nat → Int) : (pick (m := m) G).Perm (List.finRange (m + 1)) := List.mergeSort_perm _ _
theorem orderL_len (G : Nat → Int) (n : Nat) : (orderL G n).length = n := by
  cases n with
  | zero => rfl
  | succ m => simp [orderL, (pick_perm G).length_eq]
theorem orderL_congr {F G : Nat → Int} {n : Nat} (h : ∀ i j, i < n → j < n → ahd F i j = ahd G i j) : orderL F n = orderL G n := by
  cases n with
  | zero => rfl
  | succ m =>
    have e : (fun x y : Fin (m + 1) => !ahd F y.val x.val) = fun x y => !ahd G y.val x.val := by
      funext x y
      rw [h _ _ y.isLt x.isLt]
    have e2 : pick (m := m) F = pick G := by unfold pick; rw [e]
    show (pick (m := m) F).map _ = (pick (m := m) G).map _
    rw [e2]
theorem orderL_bd (G : Nat → Int) (n : Nat) : ∀ z ∈ orderL G n, 0 ≤ z ∧ z < n := by
  cases n with
  | zero => intro z hz; simp [orderL] at hz
  | succ m =>
    intro z hz
    simp only [orderL, List.mem_map] at hz
    obtain ⟨x, _, rfl⟩ := hz
    have := x.isLt
    omega
theorem pick_sorted {m : Nat} (G : Nat → Int) : (pick (m := m) G).Pairwise (fun a b => ahd G a.val b.val = true) := by
  have hp : (pick (m := m) G).Pairwise (fun a b => (!ahd G b.val a.val) = true) := by
    unfold pick
    refine List.pairwise_mergeSort ?_ ?_ _
    · intro a b c h1 h2
      simp only [Bool.not_eq_true'] at *
      simp [ahd] at *; omega
    · intro a b
      cases h : ahd G b.val a.val
      · simp
      · simp [ahd_asym h]
  have hn : (pick (m := m) G).Nodup := (pick_perm G).nodup_iff.2 (List.nodup_finRange _)
  refine (hp.and hn).imp fun {a b} ⟨h1, h2⟩ => ?_
  simp only [Bool.not_eq_true'] at h1
  rcases ahd_total (G := G) (fun e => h2 (Fin.ext e)) with h | h
  · exact h
  · rw [h] at h1; cases h1
theorem count_sorted {α : Type} (R : α → α → Bool) (hirr : ∀ a, R a a = false) (hasym : ∀ a b, R a b = true → R b a = false) {s : List α} (h : s.Pairwise (fun a b => R a b = true)) {k : Nat} (hk : k < s.length) : s.countP (fun x => R x s[k]) = k := by
  have hs : s = s.take k ++ s[k] :: s.drop (k + 1) := by rw [← List.drop_eq_getElem_cons hk, List.take_append_drop]
  generalize hx : s[k] = x
  rw [hx] at hs
  rw [hs] at h ⊢
  rw [List.pairwise_append] at h
  obtain ⟨_, h2, h3⟩ := h
  rw [List.pairwise_cons] at h2
  have c1 : (s.drop (k + 1)).countP (fun y => R y x) = 0 := List.countP_eq_zero.2 (fun a ha => by rw [hasym _ _ (h2.1 a ha)]; simp)
  have c2 : (s.take k).countP (fun y => R y x) = (s.take k).length := List.countP_eq_length.2 (fun a ha => h3 a ha x List.mem_cons_self)
  rw [List.countP_append, List.countP_cons, hirr, c1, c2]
  simp; omega
theorem fin_range (n : Nat) : (List.finRange n).map Fin.val = List.range n := by
  refine List.ext_getElem (by simp) fun i h1 h2 => by simp
theorem placeN_pick {m : Nat} (G : Nat → Int) {k : Nat} (hk : k < (pick (m := m) G).length) : placeN G ((pick (m := m) G)[k]).val (m + 1) = k := by
  rw [placeN_count]
  have e : (List.range (m + 1)).countP (fun q => ahd G q ((pick (m := m) G)[k]).val) = (List.finRange (m + 1)).countP (fun q => ahd G q.val ((pick (m := m) G)[k]).val) := by
    rw [← fin_range, List.countP_map]; rfl
  rw [e, ← (pick_perm G).countP_eq]
  exact count_sorted (fun a b : Fin (m + 1) => ahd G a.val b.val) (fun a => ahd_irr G _) (fun a b h => ahd_asym h) (pick_sorted G) hk
/-- the places, place by place: as the document lists them. -/
def rowP (G : Nat → Int) (n k i : Nat) : List Int := ((List.range i).filter (fun q : Nat => placeN G q n == k)).map (fun q : Nat => Int.ofNat q)
def refP (G : Nat → Int) (n k : Nat) : List Int := (List.range k).flatMap (fun q => rowP G n q n)
theorem rowP_yes {G : Nat → Int} {n k i : Nat} (h : placeN G i n = k) : rowP G n k (i + 1) = rowP G n k i ++ [(i : Int)] := by
  simp [rowP, List.range_succ, h]
theorem rowP_no {G : Nat → Int} {n k i : Nat} (h : placeN G i n ≠ k) : rowP G n k (i + 1) = rowP G n k i := by
  simp [rowP, List.range_succ, h]
theorem rowP_zero (G : Nat → Int) (n k : Nat) : rowP G n k 0 = [] := rfl
theorem refP_zero (G : Nat → Int) (n : Nat) : refP G n 0 = [] := rfl
theorem refP_succ (G : Nat → Int) (n k : Nat) : refP G n (k + 1) = refP G n k ++ rowP G n k n := by simp [refP, List.range_succ]
theorem filter_one (c : Nat) (p : Nat → Bool) {n : Nat} (hc : c < n) (h : ∀ i, i < n → (p i = true ↔ i = c)) : (List.range n).filter p = [c] := by
  have key : ∀ m, m ≤ n → (List.range m).filter p = if c < m then [c] else [] := by
    intro m
    induction m with
    | zero => intro _; simp
    | succ m ih =>
      intro hm
      rw [List.range_succ, List.filter_append, ih (by omega)]
      have hm' := h m (by omega)
      by_cases e : m = c
      · subst e
        simp [hm'.2 rfl]
      · have : p m = false := by
          cases hp : p m
          · rfl
          · exact absurd (hm'.1 hp) e
        simp only [List.filter_cons, this, List.filter_nil]
        by_cases h1 : c < m
        · simp [h1]; omega
        · simp [h1]; omega
  rw [key n (Nat.le_refl _), if_pos hc]
theorem refP_all (G : Nat → Int) (n : Nat) : refP G n n = orderL G n := by
  cases n with
  | zero => rfl
  | succ m =>
    have hl : (pick (m := m) G).length = m + 1 := by rw [(pick_perm G).length_eq, List.length_finRange]
    have hrow : ∀ k (hk : k < m + 1), rowP G (m + 1) k (m + 1) = [((((pick (m := m) G)[k]'(by omega)).val : Nat) : Int)] := by
      intro k hk
      unfold rowP
      rw [filter_one ((pick (m := m) G)[k]'(by omega)).val _ (Fin.isLt _)]
      · rfl
      · intro i hi
        have hmem : (⟨i, hi⟩ : Fin (m + 1)) ∈ pick (m := m) G := (pick_perm G).mem_iff.2 (List.mem_finRange _)
        obtain ⟨j, hj, he⟩ := List.getElem_of_mem hmem
        have hv : i = ((pick (m := m) G)[j]).val := by rw [he]
        have hp := placeN_pick G hj
        rw [← hv] at hp
        rw [hp, beq_iff_eq]
        constructor
        · rintro rfl; exact hv
        · intro h2
          have h3 := placeN_pick G (k := k) (by omega)
          rw [← h2, hp] at h3
          exact h3
    have key : ∀ k, k ≤ m + 1 → refP G (m + 1) k = ((pick (m := m) G).take k).map (fun x => ((x.val : Nat) : Int)) := by
      intro k
      induction k with
      | zero => intro _; rfl
      | succ k ih =>
        intro hk
        rw [refP_succ, ih (by omega), hrow k (by omega), List.take_succ_eq_append_getElem (by omega), List.map_append]; rfl
    rw [key (m + 1) (Nat.le_refl _), List.take_of_length_le (by omega)]; rfl
theorem rowP_len {G : Nat → Int} {n k i : Nat} : (rowP G n k i).length ≤ i := by
  unfold rowP
  rw [List.length_map]
  exact Nat.le_trans (List.length_filter_le _ _) (by simp)
theorem refP_len {G : Nat → Int} {n k : Nat} : (refP G n k).length ≤ k * n := by
  induction k with
  | zero => simp [refP_zero]
  | succ k ih =>
    rw [refP_succ, List.length_append, Nat.add_mul, Nat.one_mul]
    have := rowP_len (G := G) (n := n) (k := k) (i := n)
    omega
end Go.Proofs.Ytmnhcmkcdchmkaa.CRank
