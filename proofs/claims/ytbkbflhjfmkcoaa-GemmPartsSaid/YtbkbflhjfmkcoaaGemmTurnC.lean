/- Layer 12 (gemm): rows as columns, the code's and the document's. -/
import Derived.Test.YtbkbflhjfmkcoaaGemmRef
namespace Go.Proofs.Ytbkbflhjfmkcoaa.CGemm
open Go Go.ChangeShapes Go.WideShapes Go.ChangeAt Go.RowKit
open Plain
set_option linter.unusedVariables false

/-- the number at i of rows turned to columns. -/
def turnF (xs : List Int) (rows cols : Nat) (i : Nat) : Int := xs.getD (i % rows * cols + i / rows) 0
theorem turn_src {rows cols j : Nat} (hr : 0 < rows) (hj : j < rows * cols) : j % cols * rows + j / cols < rows * cols := by
  have hc : 0 < cols := by
    rcases Nat.eq_zero_or_pos cols with h | h
    · subst h; omega
    · exact h
  have h1 := Nat.mod_lt j hc
  have h2 : j / cols < rows := Nat.div_lt_of_lt_mul (by rw [Nat.mul_comm]; exact hj)
  have := place_lt (rows := cols) (cols := rows) h1 h2
  rwa [Nat.mul_comm cols rows] at this
theorem turn_back {rows cols j : Nat} (hr : 0 < rows) (hj : j < rows * cols) : (j % cols * rows + j / cols) % rows * cols + (j % cols * rows + j / cols) / rows = j := by
  have h2 : j / cols < rows := Nat.div_lt_of_lt_mul (by rw [Nat.mul_comm]; exact hj)
  obtain ⟨e1, e2⟩ := place_of (cols := rows) (r := j % cols) h2
  rw [e1, e2]
  exact place_back
/-- turned twice. -/
theorem turn_twice (xs : List Int) {rows cols n : Nat} (hn : xs.length = n) (hr : 0 < rows) (h : n = rows * cols) : rowL (turnF (rowL (turnF xs rows cols) n) cols rows) n = xs := by
  refine (eq_rowL hn fun i hi => ?_).symm
  unfold turnF
  rw [rowL_getD _ (by rw [h]; exact turn_src hr (by omega)), turn_back hr (by omega)]
  rw [List.getD_eq_getElem?_getD, List.getElem?_eq_getElem (by omega)]; rfl
theorem turn_no (A : Option Addr) (n1 c1 : Nat) (r c : Int) (h : holdsB n1 r c = false) (w : World) :
    Calls Try.prog 12 #[.slice A n1 c1, .int .i64 r, .int .i64 c] w fun e w' => e = .returned (.slice none 0 0) ∧ w = w' := by
  have H1 := Lib.hid h
  clear h
  go_enter Try.func12, Try.ntmps12
  go_wp2_with (go_at_call 15; (refine (holds_to _ _ _ _ H1.out _).mono ?_); rintro e w1 ⟨rfl, rfl⟩; clear H1)
  go_ret
  exact ⟨rfl, rfl⟩
theorem refTurn_no (A : Option Addr) (n1 c1 : Nat) (r c : Int) (h : holdsB n1 r c = false) (w : World) :
    Calls Try.prog 13 #[.slice A n1 c1, .int .i64 r, .int .i64 c] w fun e w' => e = .returned (.slice none 0 0) ∧ w = w' := by
  rcases holdsB_no h with h1 | ⟨h1, h2⟩ | ⟨h1, h2, h3⟩ | ⟨h1, h2, h3, h4⟩ | ⟨h1, h2, h3, h4, h5⟩
  rotate_right
  · obtain ⟨s1, s2⟩ := small_mul h1 h2 h3 h4
    obtain ⟨p, hp⟩ : ∃ p, r * c = p := ⟨_, rfl⟩
    have e1 : IntKind.i64.wrap (r * c) = p := by rw [IntWalk.i64_in _ (by omega)]; exact hp
    rw [hp] at h5
    have h9 : ((n1 : Int) != p) = true := by simpa using h5
    clear hp s1 s2 h
    go_enter Try.func13, Try.ntmps13
    go_wp2_with fail
    go_ret
    exact ⟨rfl, rfl⟩
  all_goals
    clear h
    go_enter Try.func13, Try.ntmps13
    go_wp2_with fail
    go_ret
    exact ⟨rfl, rfl⟩
set_option maxRecDepth 100000 in
set_option maxHeartbeats 4000000 in
theorem turn_yes (A : Option Addr) (xs : List Int) (n1 c1 r c : Nat) (hx : xs.length = n1) (h1 : holdsB n1 r c = true) (hn6 : n1 ≤ 1000000) (F : Nat → Int) (hF : F = turnF xs r c) (w : World)
    (hr : Kit.Rd w w.heap.size A (xs.map (.int .i8))) :
    Calls Try.prog 12 #[.slice A n1 c1, .int .i64 (r : Int), .int .i64 (c : Int)] w (Owned w 36 n1 (I8v (rowL F n1))) := by
  have H1 := Lib.hid h1
  obtain ⟨g1, g2, g3, g4, g5⟩ := holdsB_yes h1
  have hn1 : n1 = r * c := by have := g5; rw [← Int.natCast_mul] at this; exact Int.ofNat.inj this
  have hc0 : 0 < c := by omega
  have hr0 : 0 < r := by omega
  have hp1 : 0 < xs.length := by rw [hx, hn1]; exact Nat.mul_pos hr0 hc0
  obtain ⟨b1, o1, rfl, hb1, hcell⟩ := ints_getD hr (j := 0) hp1
  have HX := Lib.hid hx
  have HF := Lib.hid hF
  have HC := Lib.hid hcell
  have HN1 := Lib.hid hn1
  clear h1 hx hF hr hn1 g5 hcell hp1
  go_enter Try.func12, Try.ntmps12
  obtain ⟨i0, hi0, hi1, hi2, hi3⟩ := info_parts info_i8
  go_wp2_with (first
    | (go_at_call 15; (refine (holds_to _ _ _ _ H1.out _).mono ?_); rintro e w1 ⟨rfl, rfl⟩; clear H1)
    | (at_make; refine wpList_make_full _ rfl (.tmp 17) (.tmp 17) _ rfl w.heap.size 36 i0 (.int .i8 0) 1 Try.underlying23 hi0 hi1 hi2 .i64 .i64 _ _ n1 rfl rfl rfl rfl (by rw [hi3]; omega) (by unfold maxLen; omega) (by omega) ?_; intro w2 hown hg2))
  rw [show (madeCells (Value.int IntKind.i8 0).cells (n1 * 1)).toList = I8v (List.replicate n1 0) by rw [Nat.mul_one]; show (madeCells #[Value.int .i8 0] n1).toList = _; rw [toList_madeCells_one]; simp [I8v]] at hown
  have HOWN := Lib.hid hown
  have HB2 : Hid (Below w.heap.size w w2) := Lib.hid ((Below.refl w.heap.size w).grown hg2 (Nat.le_refl _) (fun q hq => by cases hq))
  clear hown hg2 hi0 hi1 hi2 hi3
  go_loopw [21] (fun i wr => ∃ (k : Nat) (P : List Int), k ≤ n1 ∧ i = .int .i64 k ∧ Hid (wr.ownsRow w.heap.size 36 1 (.slice (some ⟨w.heap.size, 0, none⟩) n1 n1) n1 (I8v P)) ∧ Hid (Filled n1 (fun j => j % r * c + j / r < k) F P) ∧ Hid (Below w.heap.size w wr)) (fun i _ => n1 - (intOf i).toNat)
  case atStart => exact ⟨0, _, Nat.zero_le _, rfl, HOWN, Lib.hid (Filled.none (fun i _ h => by simp at h)), HB2⟩
  case round =>
    obtain ⟨k, P, hk, rfl, HO1, HF1, HB1⟩ := hrel
    clear HOWN HB2
    by_cases hlt : k < n1
    · have hkI : (k : Int) < (n1 : Int) := by omega
      have hk0 : (0 : Int) ≤ (k : Int) := by omega
      have hcx : wr.cell? ⟨b1, o1 + k, none⟩ = some (.int .i8 (xs.getD k 0)) := (HB1.out.cell (p := ⟨b1, o1 + k, none⟩) hb1).trans (HC.out k (by have := HX.out; omega))
      obtain ⟨q, hq⟩ : ∃ q, k / c = q := ⟨_, rfl⟩
      obtain ⟨p, hp⟩ : ∃ p, k % c = p := ⟨_, rfl⟩
      obtain ⟨I1, hI1⟩ : ∃ I1, p * r = I1 := ⟨_, rfl⟩
      obtain ⟨I2, hI2⟩ : ∃ I2, I1 + q = I2 := ⟨_, rfl⟩
      have hqr : q < r := by rw [← hq]; exact Nat.div_lt_of_lt_mul (by rw [Nat.mul_comm, ← HN1.out]; exact hlt)
      have hpc : p < c := by rw [← hp]; exact Nat.mod_lt _ hc0
      have hIN : I2 < n1 := by rw [HN1.out, ← hI2, ← hI1, Nat.mul_comm r c]; exact place_lt hpc hqr
      have hFI : F I2 = xs.getD k 0 := by
        obtain ⟨x1, x2⟩ := place_of (r := p) hqr
        rw [HF.out]; unfold turnF
        rw [← hI2, ← hI1, x1, x2, ← hq, ← hp, place_back]
      have hsrc : ∀ j, j < n1 → j % r * c + j / r < k + 1 → j % r * c + j / r < k ∨ j = I2 := by
        intro j hj h
        rcases Nat.lt_or_ge (j % r * c + j / r) k with h8 | h8
        · exact .inl h8
        · right
          have h9 : j % r * c + j / r = k := by omega
          have hjc : j / r < c := Nat.div_lt_of_lt_mul (by rw [← HN1.out]; exact hj)
          obtain ⟨x1, x2⟩ := place_of (r := j % r) hjc
          rw [h9, hq] at x1
          rw [h9, hp] at x2
          rw [← hI2, ← hI1, x2, x1]
          exact place_back.symm
      have a9 : ¬ c = 0 := by omega
      have d1 : (k : Int).tdiv (c : Int) = (q : Int) := by rw [Int.tdiv_eq_ediv_of_nonneg (by omega), ← hq]; simp
      have d2 : (k : Int).tmod (c : Int) = (p : Int) := by rw [Int.tmod_eq_emod_of_nonneg (by omega), ← hp]; simp
      have d3 : IntKind.i64.wrap (p : Int) = (p : Int) := IntWalk.i64_in _ (by omega)
      have d4 : IntKind.i64.wrap (q : Int) = (q : Int) := IntWalk.i64_in _ (by omega)
      have w1 : IntKind.i64.wrap ((p : Int) * (r : Int)) = (I1 : Int) := by rw [← Int.natCast_mul, hI1]; exact IntWalk.i64_in _ (by omega)
      have w2' : IntKind.i64.wrap ((I1 : Int) + (q : Int)) = (I2 : Int) := by rw [← Int.natCast_add, hI2]; exact IntWalk.i64_in _ (by omega)
      have s9 : (0 : Int) ≤ (I2 : Int) := by omega
      have s0 : (I2 : Int) < (n1 : Int) := by omega
      have hfr : wr.frozen? ⟨w.heap.size, I2, none⟩ = false := HO1.out.frozenAt I2
      have hcl : ∃ v, wr.cell? ⟨w.heap.size, I2, none⟩ = some v := ⟨_, (HO1.out.cellAt I2 (by omega)).trans (List.getElem?_eq_getElem (by rw [I8v_len, HF1.out.1]; exact hIN))⟩
      obtain ⟨vold, hcl⟩ := hcl
      generalize xs.getD k 0 = x at hcx hFI
      have HFI := Lib.hid hFI
      have HSR := Lib.hid hsrc
      clear hq hp hI1 hI2 hFI hsrc
      go_wp2_with fail
      refine wp_region_held_drew (S := fun _ => True) (by kernel_rfl) trivial (fun hHeld => ?_)
      refine wpAnyH_take (i := 0) (oi := ({ dst := some 26, op := Op.move (Operand.tmp 7), type := 23, pos := "gemm.go:65", after := #[], guard := none } : Oper)) (v := ?_) rfl (by kernel_rfl) (by kernel_rfl) (by kernel_rfl) (fun _ _ _ h => h) (Or.inl ⟨by rfl, ?_⟩) (by assumption) ?_
      rotate_left
      · intro wS hSw
        first
          | (go_simp; done)
          | (go_simp; with_reducible rfl)
      try simp only [Act.put, List.setIfInBounds_toArray, List.set_cons_zero, List.set_cons_succ]
      refine wpAnyH_take (i := 1) (oi := ({ dst := some 27, op := Op.move (Operand.tmp 8), type := 3, pos := "gemm.go:65", after := #[], guard := none } : Oper)) (v := ?_) rfl (by kernel_rfl) (by kernel_rfl) (by kernel_rfl) (fun _ _ _ h => h) (Or.inl ⟨by rfl, ?_⟩) (by assumption) ?_
      rotate_left
      · intro wS hSw
        first
          | (go_simp; done)
          | (go_simp; with_reducible rfl)
      try simp only [Act.put, List.setIfInBounds_toArray, List.set_cons_zero, List.set_cons_succ]
      refine wpAnyH_take (i := 2) (oi := ({ dst := some 28, op := Op.move (Operand.tmp 2), type := 3, pos := "gemm.go:65", after := #[], guard := none } : Oper)) (v := ?_) rfl (by kernel_rfl) (by kernel_rfl) (by kernel_rfl) (fun _ _ _ h => h) (Or.inl ⟨by rfl, ?_⟩) (by assumption) ?_
      rotate_left
      · intro wS hSw
        first
          | (go_simp; done)
          | (go_simp; with_reducible rfl)
      try simp only [Act.put, List.setIfInBounds_toArray, List.set_cons_zero, List.set_cons_succ]
      refine wpAnyH_take (i := 3) (oi := ({ dst := some 29, op := Op.binOp BinOp.rem 3 (Operand.tmp 27) (Operand.tmp 28) 3, type := 3, pos := "gemm.go:65", after := #[{ on := 1, ground := Ground.data }, { on := 2, ground := Ground.data }], guard := none } : Oper)) (v := ?_) rfl (by kernel_rfl) (by kernel_rfl) (by kernel_rfl) (fun _ _ _ h => h) (Or.inl ⟨by rfl, ?_⟩) (by assumption) ?_
      rotate_left
      · intro wS hSw
        first
          | (go_simp; done)
          | (go_simp; with_reducible rfl)
      try simp only [Act.put, List.setIfInBounds_toArray, List.set_cons_zero, List.set_cons_succ]
      refine wpAnyH_take (i := 4) (oi := ({ dst := some 30, op := Op.move (Operand.tmp 1), type := 3, pos := "gemm.go:65", after := #[], guard := none } : Oper)) (v := ?_) rfl (by kernel_rfl) (by kernel_rfl) (by kernel_rfl) (fun _ _ _ h => h) (Or.inl ⟨by rfl, ?_⟩) (by assumption) ?_
      rotate_left
      · intro wS hSw
        first
          | (go_simp; done)
          | (go_simp; with_reducible rfl)
      try simp only [Act.put, List.setIfInBounds_toArray, List.set_cons_zero, List.set_cons_succ]
      refine wpAnyH_take (i := 5) (oi := ({ dst := some 31, op := Op.binOp BinOp.mul 3 (Operand.tmp 29) (Operand.tmp 30) 3, type := 3, pos := "gemm.go:65", after := #[{ on := 3, ground := Ground.data }, { on := 4, ground := Ground.data }], guard := none } : Oper)) (v := ?_) rfl (by kernel_rfl) (by kernel_rfl) (by kernel_rfl) (fun _ _ _ h => h) (Or.inl ⟨by rfl, ?_⟩) (by assumption) ?_
      rotate_left
      · intro wS hSw
        first
          | (go_simp; done)
          | (go_simp; with_reducible rfl)
      try simp only [Act.put, List.setIfInBounds_toArray, List.set_cons_zero, List.set_cons_succ]
      refine wpAnyH_take (i := 6) (oi := ({ dst := some 32, op := Op.move (Operand.tmp 8), type := 3, pos := "gemm.go:65", after := #[], guard := none } : Oper)) (v := ?_) rfl (by kernel_rfl) (by kernel_rfl) (by kernel_rfl) (fun _ _ _ h => h) (Or.inl ⟨by rfl, ?_⟩) (by assumption) ?_
      rotate_left
      · intro wS hSw
        first
          | (go_simp; done)
          | (go_simp; with_reducible rfl)
      try simp only [Act.put, List.setIfInBounds_toArray, List.set_cons_zero, List.set_cons_succ]
      refine wpAnyH_take (i := 7) (oi := ({ dst := some 33, op := Op.move (Operand.tmp 2), type := 3, pos := "gemm.go:65", after := #[], guard := none } : Oper)) (v := ?_) rfl (by kernel_rfl) (by kernel_rfl) (by kernel_rfl) (fun _ _ _ h => h) (Or.inl ⟨by rfl, ?_⟩) (by assumption) ?_
      rotate_left
      · intro wS hSw
        first
          | (go_simp; done)
          | (go_simp; with_reducible rfl)
      try simp only [Act.put, List.setIfInBounds_toArray, List.set_cons_zero, List.set_cons_succ]
      refine wpAnyH_take (i := 8) (oi := ({ dst := some 34, op := Op.binOp BinOp.quo 3 (Operand.tmp 32) (Operand.tmp 33) 3, type := 3, pos := "gemm.go:65", after := #[{ on := 6, ground := Ground.data }, { on := 7, ground := Ground.data }], guard := none } : Oper)) (v := ?_) rfl (by kernel_rfl) (by kernel_rfl) (by kernel_rfl) (fun _ _ _ h => h) (Or.inl ⟨by rfl, ?_⟩) (by assumption) ?_
      rotate_left
      · intro wS hSw
        first
          | (go_simp; done)
          | (go_simp; with_reducible rfl)
      try simp only [Act.put, List.setIfInBounds_toArray, List.set_cons_zero, List.set_cons_succ]
      refine wpAnyH_take (i := 9) (oi := ({ dst := some 35, op := Op.binOp BinOp.add 3 (Operand.tmp 31) (Operand.tmp 34) 3, type := 3, pos := "gemm.go:65", after := #[{ on := 5, ground := Ground.data }, { on := 8, ground := Ground.data }], guard := none } : Oper)) (v := ?_) rfl (by kernel_rfl) (by kernel_rfl) (by kernel_rfl) (fun _ _ _ h => h) (Or.inl ⟨by rfl, ?_⟩) (by assumption) ?_
      rotate_left
      · intro wS hSw
        first
          | (go_simp; done)
          | (go_simp; with_reducible rfl)
      try simp only [Act.put, List.setIfInBounds_toArray, List.set_cons_zero, List.set_cons_succ]
      refine wpAnyH_take (i := 10) (oi := ({ dst := some 36, op := Op.move (Operand.tmp 9), type := 36, pos := "gemm.go:65", after := #[], guard := none } : Oper)) (v := ?_) rfl (by kernel_rfl) (by kernel_rfl) (by kernel_rfl) (fun _ _ _ h => h) (Or.inl ⟨by rfl, ?_⟩) (by assumption) ?_
      rotate_left
      · intro wS hSw
        first
          | (go_simp; done)
          | (go_simp; with_reducible rfl)
      try simp only [Act.put, List.setIfInBounds_toArray, List.set_cons_zero, List.set_cons_succ]
      refine wpAnyH_take (i := 11) (oi := ({ dst := some 37, op := Op.indexAddr 23 (Operand.tmp 26) (Operand.tmp 35), type := 0, pos := "gemm.go:65", after := #[{ on := 0, ground := Ground.data }, { on := 9, ground := Ground.data }, { on := 0, ground := Ground.phase }, { on := 1, ground := Ground.phase }, { on := 2, ground := Ground.phase }, { on := 3, ground := Ground.phase }, { on := 4, ground := Ground.phase }, { on := 5, ground := Ground.phase }, { on := 6, ground := Ground.phase }, { on := 7, ground := Ground.phase }, { on := 8, ground := Ground.phase }, { on := 9, ground := Ground.phase }, { on := 10, ground := Ground.phase }], guard := none } : Oper)) (v := ?_) rfl (by kernel_rfl) (by kernel_rfl) (by kernel_rfl) (fun _ _ _ h => h) (Or.inl ⟨by rfl, ?_⟩) (by assumption) ?_
      rotate_left
      · intro wS hSw
        first
          | (go_simp; done)
          | (go_simp; with_reducible rfl)
      try simp only [Act.put, List.setIfInBounds_toArray, List.set_cons_zero, List.set_cons_succ]
      refine wpAnyH_ready (rs := [12]) (by kernel_rfl) (by simp) ?_
      refine AllReadyH.cons (o := ({ dst := none, op := Op.store 36 (Operand.tmp 37) (Operand.tmp 36), type := 0, pos := "gemm.go:65", after := #[{ on := 11, ground := Ground.data }, { on := 10, ground := Ground.data }, { on := 0, ground := Ground.phase }, { on := 1, ground := Ground.phase }, { on := 2, ground := Ground.phase }, { on := 3, ground := Ground.phase }, { on := 4, ground := Ground.phase }, { on := 5, ground := Ground.phase }, { on := 6, ground := Ground.phase }, { on := 7, ground := Ground.phase }, { on := 8, ground := Ground.phase }, { on := 9, ground := Ground.phase }, { on := 10, ground := Ground.phase }], guard := none } : Oper)) rfl (fun K hK => ?_) (AllReadyH.nil)
      go_simp
      refine hK.out _ _ ?_ (fun hHeld => ?_)
      · trivial
      clear hK K
      try simp only [Act.put, List.setIfInBounds_toArray, List.set_cons_zero, List.set_cons_succ]
      refine wpAnyH_done (by kernel_rfl) ?_ _
      have HO4 := Lib.hid ((Kit.own_below HO1.out (Below.refl wr.heap.size wr).drew).stored I2 (.int .i8 x)).1
      have HB4 : Hid (Below w.heap.size w (wr.drew.setCell ⟨w.heap.size, I2, none⟩ (.int .i8 x))) := Lib.hid (HB1.out.drew.setCell (by simp) _)
      rw [I8v_set] at HO4
      clear HO1 HB1 hfr hcl hcx
      go_wp2_with fail
      go_roundw
      case rel => exact ⟨k + 1, P.set I2 x, by omega, by go_num, HO4, Lib.hid (HF1.out.set HFI.out HSR.out), HB4⟩
      case measure => simp [intOf]; omega
    · obtain rfl : k = n1 := by omega
      have hfin : P = rowL F k := HF1.out.all (fun j hj => by
        have hc : j / r < c := Nat.div_lt_of_lt_mul (by rw [← HN1.out]; exact hj)
        have := place_lt (Nat.mod_lt j hr0) hc
        rw [← HN1.out] at this
        exact this)
      subst hfin
      go_wp2_with fail
      go_ret
      exact ⟨_, rfl, HO1.out, HB1.out⟩

set_option maxRecDepth 100000 in
set_option maxHeartbeats 4000000 in
theorem refTurn_yes (A : Option Addr) (xs : List Int) (n1 c1 r c : Nat) (hx : xs.length = n1) (h1 : holdsB n1 r c = true) (hn6 : n1 ≤ 1000000) (F : Nat → Int) (hF : F = turnF xs r c) (w : World)
    (hr : Kit.Rd w w.heap.size A (xs.map (.int .i8))) :
    Calls Try.prog 13 #[.slice A n1 c1, .int .i64 (r : Int), .int .i64 (c : Int)] w (Owned w 36 n1 (I8v (rowL F n1))) := by
  obtain ⟨g1, g2, g3, g4, g5⟩ := holdsB_yes h1
  have hn1 : n1 = r * c := by have := g5; rw [← Int.natCast_mul] at this; exact Int.ofNat.inj this
  have hrc : IntKind.i64.wrap ((r : Int) * (c : Int)) = (n1 : Int) := by
    have := small_mul g1 g2 g3 g4
    rw [g5]; exact IntWalk.i64_in _ (by omega)
  have hc0 : 0 < c := by omega
  have hr0 : 0 < r := by omega
  have hp1 : 0 < xs.length := by rw [hx, hn1]; exact Nat.mul_pos hr0 hc0
  obtain ⟨b1, o1, rfl, hb1, hcell⟩ := ints_getD hr (j := 0) hp1
  have HX := Lib.hid hx
  have HF := Lib.hid hF
  have HC := Lib.hid hcell
  have HN1 := Lib.hid hn1
  clear h1 hx hF hr hn1 g5 hcell hp1
  go_enter Try.func13, Try.ntmps13
  obtain ⟨i0, hi0, hi1, hi2, hi3⟩ := info_parts info_i8
  go_wp2_with fail
  clear hrc
  go_loopw [7, 8] (fun o u wr => ∃ i : Nat, i ≤ c ∧ u = .int .i64 i ∧ Hid (wr.ownsRow w.heap.size 36 1 o (i * r) (I8v (rowL F (i * r)))) ∧ Hid (Below w.heap.size w wr)) (fun _ u _ => c - (intOf u).toNat)
  case atStart => exact ⟨0, Nat.zero_le _, rfl, Lib.hid ⟨by simp [rowL, I8v], .inl ⟨rfl, by simp⟩⟩, Lib.hid (Below.refl _ _)⟩
  case round =>
    obtain ⟨i, hi, rfl, HO1, HB1⟩ := hrel
    by_cases hlt : i < c
    · have hiI : (i : Int) < (c : Int) := by omega
      go_wp2_with fail
      go_loopw [7, 9] (fun o u wr => ∃ j : Nat, j ≤ r ∧ u = .int .i64 j ∧ Hid (wr.ownsRow w.heap.size 36 1 o (i * r + j) (I8v (rowL F (i * r + j)))) ∧ Hid (Below w.heap.size w wr)) (fun _ u _ => r - (intOf u).toNat)
      case atStart => exact ⟨0, Nat.zero_le _, rfl, by rw [Nat.add_zero]; exact HO1, HB1⟩
      case round =>
        clear HO1 HB1
        obtain ⟨j, hj, rfl, HO1, HB1⟩ := hrel
        by_cases hltj : j < r
        · have hjI : (j : Int) < (r : Int) := by omega
          obtain ⟨I1, hI1⟩ : ∃ I1, i * r = I1 := ⟨_, rfl⟩
          obtain ⟨I2, hI2⟩ : ∃ I2, I1 + j = I2 := ⟨_, rfl⟩
          obtain ⟨A1, hA1⟩ : ∃ A1, j * c = A1 := ⟨_, rfl⟩
          obtain ⟨A2, hA2⟩ : ∃ A2, A1 + i = A2 := ⟨_, rfl⟩
          have hIN : I2 < n1 := by rw [HN1.out, ← hI2, ← hI1, Nat.mul_comm r c]; exact place_lt hlt hltj
          have hAn : A2 < n1 := by rw [HN1.out, ← hA2, ← hA1]; exact place_lt hltj hlt
          rw [hI1, hI2] at HO1
          have hFI : F I2 = xs.getD A2 0 := by
            obtain ⟨x1, x2⟩ := place_of (r := i) hltj
            rw [HF.out]; unfold turnF
            rw [← hI2, ← hI1, x1, x2, hA1, hA2]
          have hcx : wr.cell? ⟨b1, o1 + A2, none⟩ = some (.int .i8 (xs.getD A2 0)) := (HB1.out.cell (p := ⟨b1, o1 + A2, none⟩) hb1).trans (HC.out A2 (by have := HX.out; omega))
          have w3 : IntKind.i64.wrap ((j : Int) * (c : Int)) = (A1 : Int) := by rw [← Int.natCast_mul, hA1]; exact IntWalk.i64_in _ (by omega)
          have w4 : IntKind.i64.wrap ((A1 : Int) + (i : Int)) = (A2 : Int) := by rw [← Int.natCast_add, hA2]; exact IntWalk.i64_in _ (by omega)
          have s1 : (0 : Int) ≤ (A2 : Int) := by omega
          have s2 : (A2 : Int) < (n1 : Int) := by omega
          generalize xs.getD A2 0 = x at hcx hFI
          have hz1 : w.heap.size ≤ wr.heap.size := HB1.out.size
          have HFI := Lib.hid hFI
          have HI1 := Lib.hid hI1
          have HI2 := Lib.hid hI2
          clear hFI hI1 hI2 hA1 hA2
          go_wp2_with (refine Kit.wpList_append_rd _ rfl (.tmp 42) (.tmp 51) _ rfl w.heap.size 36 i0 (.int .i8 0) 1 1 Try.underlying23 hi0 hi1 hi2 hi3 rfl (by decide) u7 I2 (I8v (rowL F I2)) rfl (Kit.own_below HO1.out ((Below.refl _ _).alloc (Nat.le_refl _) _)) (wr.heap.size + 1) (some ⟨wr.heap.size, 0, none⟩) 1 1 [.int .i8 x] rfl rfl (Kit.Rd.new _ _ _ (by omega)) (Kit.ints_one .i8 [x]) (by unfold maxLen; omega) (by omega) (by simp; omega) ?_; intro v5 w5 hown5 hg5 hat5; have HO3 : Hid (w5.ownsRow w.heap.size 36 1 v5 (I2 + 1) (I8v (rowL F (I2 + 1)))) := Lib.hid (by rw [rowL_succ, HFI.out]; simpa [I8v] using hown5); have HB3 : Hid (Below w.heap.size w w5) := Lib.hid ((HB1.out.alloc hz1 _).grown hg5 (by simp; omega) (Kit.own_block_ge HO1.out)); clear hown5 hg5 hat5 HO1 HB1 hcx)
          rw [← HI2.out, Nat.add_assoc, ← HI1.out] at HO3
          go_roundw
          case rel => exact ⟨j + 1, by omega, by go_num, HO3, HB3⟩
          case measure => simp [intOf]; omega
        · obtain rfl : j = r := by omega
          rw [show i * j + j = (i + 1) * j by rw [Nat.add_mul, Nat.one_mul]] at HO1
          go_wp2_with fail
          go_roundw
          case rel => exact ⟨i + 1, by omega, by go_num, HO1, HB1⟩
          case measure => simp [intOf]; omega
    · obtain rfl : i = c := by omega
      rw [Nat.mul_comm, ← HN1.out] at HO1
      go_wp2_with fail
      go_ret
      exact ⟨_, rfl, HO1.out, HB1.out⟩
end Go.Proofs.Ytbkbflhjfmkcoaa.CGemm
