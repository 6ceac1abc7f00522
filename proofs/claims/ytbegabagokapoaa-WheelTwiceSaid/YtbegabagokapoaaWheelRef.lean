/- Layer 15 (wheel): the document's numbers of one row; two lists that are alike. -/
import Derived.Test.YtbegabagokapoaaWheelSlide
import Derived.StillTailTactics
import Derived.BigQuiet
import Derived.Deep.QuietTactic
namespace Go.Proofs.Ytbegabagokapoaa.CWheel
open Go Go.ChangeShapes Go.WideShapes Go.ChangeAt Go.RowKit
open FloatNum CFour
set_option linter.unusedVariables false

theorem same_yes (A B : Option Addr) (zs : List Int) (n c m d : Nat) (hn : zs.length = n) (hm : n = m) (hl : n ≤ 1000000) (w : World) {B1 B2 : Nat} (ha : Kit.Rd w B1 A (I64v zs)) (hb : Kit.Rd w B2 B (I64v zs)) :
    Calls Try.prog 9 #[.slice A n c, .slice B m d] w fun e w' => e = .returned (.bool true) ∧ Below w.heap.size w w' := by
  subst hn hm
  have HA := Lib.hid ha
  have HB := Lib.hid hb
  clear ha hb
  go_enter Try.func9, Try.ntmps9
  go_wp2_with fail
  go_loopw [5] (fun i wr => ∃ k nq : Nat, k ≤ zs.length ∧ i = .int .i64 k ∧ Hid (wr = w.drewN nq)) (fun i _ => zs.length - (intOf i).toNat)
  case atStart => exact ⟨0, 0, Nat.zero_le _, rfl, Lib.hid rfl⟩
  case round =>
    obtain ⟨k, nq, hk, rfl, hw⟩ := hrel
    obtain rfl := hw.out
    clear hw
    by_cases hlt : k < zs.length
    · obtain ⟨b, off, rfl, _, hx⟩ := HA.out.ints hlt
      obtain ⟨b2, off2, rfl, _, hy⟩ := HB.out.ints hlt
      generalize zs[k] = x at hx hy
      have h0 : (0 : Int) ≤ (k : Int) := by omega
      have h1 : (k : Int) < (zs.length : Int) := by omega
      go_wp2_with fail
      go_quiet (fail)
      go_wp2
      go_roundw
      case rel => exact ⟨k + 1, _, by omega, by go_num, Lib.hid rfl⟩
      case measure => simp [intOf]; omega
    · go_wp2_with fail
      go_ret
      exact ⟨rfl, Kit.below_drewN (Below.refl _ _) nq⟩

theorem slide_at (xs : List Int) (x y z : Int) (i : Nat) : slideF xs x y z i = xs.getD i 0 * x + xs.getD (i + 1) 0 * y + xs.getD (i + 2) 0 * z := rfl
theorem getD_in {xs : List Int} (h : ∀ v ∈ xs, (Lit.int .i16 v).wf = true) (i : Nat) : In16 (xs.getD i 0) := by
  have := XR_in (in_one h) 0 i
  exact this
theorem rd_at {w : World} {B b o : Nat} {xs : List Int} {k : IntKind} (h : Kit.Rd w B (some ⟨b, o, none⟩) (xs.map (.int k))) {i : Nat} (hi : i < xs.length) : w.cell? ⟨b, o + i, none⟩ = some (.int k (xs.getD i 0)) := by
  obtain ⟨ad, e, _, hc⟩ := h i (.int k (xs.getD i 0)) (by rw [List.getElem?_map, List.getElem?_eq_getElem hi, List.getD_eq_getElem?_getD, List.getElem?_eq_getElem hi]; rfl)
  cases e
  rw [Go.WideShapes.add_plain] at hc
  exact hc
set_option maxHeartbeats 8000000 in
theorem refSlide_to (A : Option Addr) (xs : List Int) (n c m : Nat) (hn : xs.length = n) (hm : m = n - 2) (hl : n ≤ 1000000) (hw8 : ∀ v ∈ xs, (Lit.int .i16 v).wf = true) (x y z : Int) (hx : InW x) (hy : InW y) (hz : InW z)
    (F : Nat → Int) (hF : F = slideF xs x y z) {B0 : Nat} (w : World) (hB0 : B0 ≤ w.heap.size) (hr : Kit.Rd w B0 A (xs.map (.int .i16))) :
    Calls Try.prog 7 #[.slice A n c, w3 x y z] w (Own64 w m (nums F m)) := by
  have HN := Lib.hid hn
  have HWF := Lib.hid (fun i => getD_in hw8 i)
  have HX := Lib.hid hx
  have HY := Lib.hid hy
  have HZ := Lib.hid hz
  have HF := Lib.hid hF
  have HR := Lib.hid (hr.more hB0)
  have HM := Lib.hid hm
  obtain ⟨i0, hi0, hi1, hi2, hi3⟩ := info_parts info_i64
  have HI := Lib.hid (And.intro hi0 (And.intro hi1 (And.intro hi2 hi3)))
  clear hn hw8 hx hy hz hF hr hB0 hm hi0 hi1 hi2 hi3
  go_enter Try.func7, Try.ntmps7
  go_wp2_with fail
  go_loopw [5, 6] (fun v u wr => ∃ k : Nat, k ≤ m ∧ u = .int .i64 k ∧ Hid (wr.ownsRow (w.heap.size + 1) 2 1 v k (I64v (nums F k))) ∧ Hid (Three w.heap.size (.int .i8 x) (.int .i8 y) (.int .i8 z) wr) ∧ Hid (Kit.Rd wr w.heap.size A (xs.map (.int .i16))) ∧ Hid (Below w.heap.size w wr)) (fun _ u _ => m - (intOf u).toNat)
  case atStart => exact ⟨0, Nat.zero_le _, rfl, Lib.hid (own_nil _ _ _ _), Lib.hid ⟨by go_cell, by go_cell, by go_cell, by simp⟩, Lib.hid (HR.out.alloc (Nat.le_refl _) _), Lib.hid ((Below.refl _ _).alloc (Nat.le_refl _) _)⟩
  case round =>
    obtain ⟨k, hk, rfl, HO, HT, HR2, HB⟩ := hrel
    obtain ⟨j1, hj1⟩ : ∃ j, k + 1 = j := ⟨_, rfl⟩
    obtain ⟨j2, hj2⟩ : ∃ j, k + 2 = j := ⟨_, rfl⟩
    have a1 : IntKind.i64.wrap ((k : Int) + 1) = (j1 : Int) := by have := HM.out; rw [IntWalk.i64_in _ (by omega)]; omega
    have a2 : IntKind.i64.wrap ((k : Int) + 2) = (j2 : Int) := by have := HM.out; rw [IntWalk.i64_in _ (by omega)]; omega
    by_cases hlt : k < m
    · have HJ := Lib.hid hj1
      have s1 : (k : Int) < (n : Int) := by have h2 := HM.out; omega
      have s2 : (j1 : Int) < (n : Int) := by have h2 := HM.out; omega
      have s3 : (j2 : Int) < (n : Int) := by have h2 := HM.out; omega
      have s4 : (0 : Int) ≤ (k : Int) := by omega
      have s5 : (0 : Int) ≤ (j1 : Int) := by omega
      have s6 : (0 : Int) ≤ (j2 : Int) := by omega
      obtain ⟨bx, ox, rfl, hbx, -⟩ := HR2.out.plain (by have h1 := HN.out; have h2 := HM.out; simp; omega)
      have d0 := rd_at HR2.out (i := k) (by have h1 := HN.out; have h2 := HM.out; omega)
      have d1 := rd_at HR2.out (i := j1) (by have h1 := HN.out; have h2 := HM.out; omega)
      have d2 := rd_at HR2.out (i := j2) (by have h1 := HN.out; have h2 := HM.out; omega)
      have q0 := HWF.out k
      have q1 := HWF.out j1
      have q2 := HWF.out j2
      have hFk : F k = xs.getD k 0 * x + xs.getD j1 0 * y + xs.getD j2 0 * z := by rw [HF.out, slide_at, hj1, hj2]
      generalize xs.getD k 0 = u0 at d0 q0 hFk
      generalize xs.getD j1 0 = u1 at d1 q1 hFk
      generalize xs.getD j2 0 = u2 at d2 q2 hFk
      have b0 := prod_bd q0 HX.out
      have b1 := prod_bd q1 HY.out
      have b2 := prod_bd q2 HZ.out
      have wx : IntKind.i64.wrap x = x := IntWalk.i64_in _ (by have := HX.out; unfold InW at this; omega)
      have wy : IntKind.i64.wrap y = y := IntWalk.i64_in _ (by have := HY.out; unfold InW at this; omega)
      have wz : IntKind.i64.wrap z = z := IntWalk.i64_in _ (by have := HZ.out; unfold InW at this; omega)
      have w0 : IntKind.i64.wrap u0 = u0 := IntWalk.i64_in _ (by unfold In16 at q0; omega)
      have w1 : IntKind.i64.wrap u1 = u1 := IntWalk.i64_in _ (by unfold In16 at q1; omega)
      have w2 : IntKind.i64.wrap u2 = u2 := IntWalk.i64_in _ (by unfold In16 at q2; omega)
      obtain ⟨t0, ht0⟩ : ∃ t, u0 * x = t := ⟨_, rfl⟩
      obtain ⟨t1, ht1⟩ : ∃ t, u1 * y = t := ⟨_, rfl⟩
      obtain ⟨t2, ht2⟩ : ∃ t, u2 * z = t := ⟨_, rfl⟩
      rw [ht0] at b0 hFk
      rw [ht1] at b1 hFk
      rw [ht2] at b2 hFk
      have m0 : IntKind.i64.wrap (u0 * x) = t0 := by rw [ht0]; exact IntWalk.i64_in _ (by omega)
      have m1 : IntKind.i64.wrap (u1 * y) = t1 := by rw [ht1]; exact IntWalk.i64_in _ (by omega)
      have m2 : IntKind.i64.wrap (u2 * z) = t2 := by rw [ht2]; exact IntWalk.i64_in _ (by omega)
      have m3 : IntKind.i64.wrap (t0 + t1) = t0 + t1 := IntWalk.i64_in _ (by omega)
      obtain ⟨r, hr⟩ : ∃ r, t0 + t1 + t2 = r := ⟨_, rfl⟩
      have m4 : IntKind.i64.wrap (t0 + t1 + t2) = r := by rw [hr]; exact IntWalk.i64_in _ (by omega)
      rw [hr] at hFk
      obtain ⟨c0, c1, c2, hgz⟩ := HT.out
      have HFK := Lib.hid hFk
      replace HO := Lib.hid (Kit.own_below HO.out (Below.refl wr.heap.size wr).drew)
      replace HR2 := Lib.hid HR2.out.drew
      replace HT := Lib.hid HT.out.drew
      replace HB := Lib.hid HB.out.drew
      have hgz2 : w.heap.size < wr.drew.heap.size := hgz
      have d0' : wr.drew.cell? ⟨bx, ox + k, none⟩ = some (.int .i16 u0) := d0
      have d1' : wr.drew.cell? ⟨bx, ox + j1, none⟩ = some (.int .i16 u1) := d1
      have d2' : wr.drew.cell? ⟨bx, ox + j2, none⟩ = some (.int .i16 u2) := d2
      have c0' : wr.drew.cell? ⟨w.heap.size, 0, none⟩ = some (.int .i8 x) := c0
      have c1' : wr.drew.cell? ⟨w.heap.size, 1, none⟩ = some (.int .i8 y) := c1
      have c2' : wr.drew.cell? ⟨w.heap.size, 2, none⟩ = some (.int .i8 z) := c2
      clear d0 d1 d2 c0 c1 c2 q0 q1 q2 b0 b1 b2 ht0 ht1 ht2 hr hFk hj1 hgz
      obtain ⟨V, cV, rfl, -, -, -⟩ := Kit.own_rd HO.out
      go_wp2_with fail
      refine wp_region_held_drew (S := fun wq => wq.cell? ⟨bx, ox + k, none⟩ = some (.int .i16 u0) ∧ wq.cell? ⟨bx, ox + j1, none⟩ = some (.int .i16 u1) ∧ wq.cell? ⟨bx, ox + j2, none⟩ = some (.int .i16 u2) ∧ wq.cell? ⟨w.heap.size, 0, none⟩ = some (.int .i8 x) ∧ wq.cell? ⟨w.heap.size, 1, none⟩ = some (.int .i8 y) ∧ wq.cell? ⟨w.heap.size, 2, none⟩ = some (.int .i8 z)) (by kernel_rfl) ⟨d0', d1', d2', c0', c1', c2'⟩ (fun hHeld => ?_)
      generalize wr.drew = Wd at HO HR2 HT HB hgz2 d0' d1' d2' c0' c1' c2' hHeld ⊢
      have hSB : ∀ W, Below (w.heap.size + 1) Wd W → (W.cell? ⟨bx, ox + k, none⟩ = some (.int .i16 u0) ∧ W.cell? ⟨bx, ox + j1, none⟩ = some (.int .i16 u1) ∧ W.cell? ⟨bx, ox + j2, none⟩ = some (.int .i16 u2) ∧ W.cell? ⟨w.heap.size, 0, none⟩ = some (.int .i8 x) ∧ W.cell? ⟨w.heap.size, 1, none⟩ = some (.int .i8 y) ∧ W.cell? ⟨w.heap.size, 2, none⟩ = some (.int .i8 z)) := fun W hW => ⟨(hW.cell (p := ⟨bx, ox + k, none⟩) (Nat.lt_succ_of_lt hbx)).trans d0', (hW.cell (p := ⟨bx, ox + j1, none⟩) (Nat.lt_succ_of_lt hbx)).trans d1', (hW.cell (p := ⟨bx, ox + j2, none⟩) (Nat.lt_succ_of_lt hbx)).trans d2', (hW.cell (p := ⟨w.heap.size, 0, none⟩) (Nat.lt_succ_self _)).trans c0', (hW.cell (p := ⟨w.heap.size, 1, none⟩) (Nat.lt_succ_self _)).trans c1', (hW.cell (p := ⟨w.heap.size, 2, none⟩) (Nat.lt_succ_self _)).trans c2'⟩
      have HSB := Lib.hid hSB
      clear hSB d0' d1' d2' c0' c1' c2'
      refine wpAnyH_take (i := 0) (oi := ({ dst := some 14, op := Op.move (Operand.tmp 5), type := 28, pos := "ref.go:8", after := #[], guard := none } : Oper)) (v := ?_) rfl (by kernel_rfl) (by kernel_rfl) (by kernel_rfl) (fun _ _ _ h => h) (Or.inl ⟨by rfl, ?_⟩) (by assumption) ?_
      rotate_left
      · intro wS hSw
        first
          | (go_simp; done)
          | (go_simp; with_reducible rfl)
      try simp only [Act.put, List.setIfInBounds_toArray, List.set_cons_zero, List.set_cons_succ]
      refine wpAnyH_take (i := 1) (oi := ({ dst := some 15, op := Op.move (Operand.tmp 0), type := 22, pos := "ref.go:8", after := #[], guard := none } : Oper)) (v := ?_) rfl (by kernel_rfl) (by kernel_rfl) (by kernel_rfl) (fun _ _ _ h => h) (Or.inl ⟨by rfl, ?_⟩) (by assumption) ?_
      rotate_left
      · intro wS hSw
        first
          | (go_simp; done)
          | (go_simp; with_reducible rfl)
      try simp only [Act.put, List.setIfInBounds_toArray, List.set_cons_zero, List.set_cons_succ]
      refine wpAnyH_take (i := 2) (oi := ({ dst := some 16, op := Op.move (Operand.tmp 6), type := 3, pos := "ref.go:8", after := #[], guard := none } : Oper)) (v := ?_) rfl (by kernel_rfl) (by kernel_rfl) (by kernel_rfl) (fun _ _ _ h => h) (Or.inl ⟨by rfl, ?_⟩) (by assumption) ?_
      rotate_left
      · intro wS hSw
        first
          | (go_simp; done)
          | (go_simp; with_reducible rfl)
      try simp only [Act.put, List.setIfInBounds_toArray, List.set_cons_zero, List.set_cons_succ]
      refine wpAnyH_take (i := 3) (oi := ({ dst := some 17, op := Op.indexAddr 22 (Operand.tmp 15) (Operand.tmp 16), type := 0, pos := "ref.go:8", after := #[{ on := 1, ground := Ground.data }, { on := 2, ground := Ground.data }], guard := none } : Oper)) (v := ?_) rfl (by kernel_rfl) (by kernel_rfl) (by kernel_rfl) (fun _ _ _ h => h) (Or.inl ⟨by rfl, ?_⟩) (by assumption) ?_
      rotate_left
      · intro wS hSw
        first
          | (go_simp; done)
          | (go_simp; with_reducible rfl)
      try simp only [Act.put, List.setIfInBounds_toArray, List.set_cons_zero, List.set_cons_succ]
      refine wpAnyH_take (i := 4) (oi := ({ dst := some 18, op := Op.load 25 (Operand.tmp 17), type := 25, pos := "ref.go:8", after := #[{ on := 3, ground := Ground.data }], guard := none } : Oper)) (v := ?_) rfl (by kernel_rfl) (by kernel_rfl) (by kernel_rfl) (fun _ _ _ h => h) (Or.inl ⟨by rfl, ?_⟩) (by assumption) ?_
      rotate_left
      · intro wS hSw
        obtain ⟨q1, q2, q3, q4, q5, q6⟩ := hSw
        first
          | (go_simp; done)
          | (go_simp; with_reducible rfl)
      try simp only [Act.put, List.setIfInBounds_toArray, List.set_cons_zero, List.set_cons_succ]
      refine wpAnyH_take (i := 5) (oi := ({ dst := some 19, op := Op.convert 25 2 (Operand.tmp 18), type := 2, pos := "ref.go:8", after := #[{ on := 4, ground := Ground.data }], guard := none } : Oper)) (v := ?_) rfl (by kernel_rfl) (by kernel_rfl) (by kernel_rfl) (fun _ _ _ h => h) (Or.inl ⟨by rfl, ?_⟩) (by assumption) ?_
      rotate_left
      · intro wS hSw
        first
          | (go_simp; done)
          | (go_simp; with_reducible rfl)
      try simp only [Act.put, List.setIfInBounds_toArray, List.set_cons_zero, List.set_cons_succ]
      refine wpAnyH_take (i := 6) (oi := ({ dst := some 20, op := Op.indexAddr 24 (Operand.tmp 3) (Operand.const (Value.int IntKind.i64 0)), type := 0, pos := "ref.go:8", after := #[], guard := none } : Oper)) (v := ?_) rfl (by kernel_rfl) (by kernel_rfl) (by kernel_rfl) (fun _ _ _ h => h) (Or.inl ⟨by rfl, ?_⟩) (by assumption) ?_
      rotate_left
      · intro wS hSw
        first
          | (go_simp; done)
          | (go_simp; with_reducible rfl)
      try simp only [Act.put, List.setIfInBounds_toArray, List.set_cons_zero, List.set_cons_succ]
      refine wpAnyH_take (i := 7) (oi := ({ dst := some 21, op := Op.load 23 (Operand.tmp 20), type := 23, pos := "ref.go:8", after := #[{ on := 6, ground := Ground.data }], guard := none } : Oper)) (v := ?_) rfl (by kernel_rfl) (by kernel_rfl) (by kernel_rfl) (fun _ _ _ h => h) (Or.inl ⟨by rfl, ?_⟩) (by assumption) ?_
      rotate_left
      · intro wS hSw
        obtain ⟨q1, q2, q3, q4, q5, q6⟩ := hSw
        first
          | (go_simp; done)
          | (go_simp; with_reducible rfl)
      try simp only [Act.put, List.setIfInBounds_toArray, List.set_cons_zero, List.set_cons_succ]
      refine wpAnyH_take (i := 8) (oi := ({ dst := some 22, op := Op.convert 23 2 (Operand.tmp 21), type := 2, pos := "ref.go:8", after := #[{ on := 7, ground := Ground.data }], guard := none } : Oper)) (v := ?_) rfl (by kernel_rfl) (by kernel_rfl) (by kernel_rfl) (fun _ _ _ h => h) (Or.inl ⟨by rfl, ?_⟩) (by assumption) ?_
      rotate_left
      · intro wS hSw
        first
          | (go_simp; done)
          | (go_simp; with_reducible rfl)
      try simp only [Act.put, List.setIfInBounds_toArray, List.set_cons_zero, List.set_cons_succ]
      refine wpAnyH_take (i := 9) (oi := ({ dst := some 23, op := Op.binOp BinOp.mul 2 (Operand.tmp 19) (Operand.tmp 22) 2, type := 2, pos := "ref.go:8", after := #[{ on := 5, ground := Ground.data }, { on := 8, ground := Ground.data }], guard := none } : Oper)) (v := ?_) rfl (by kernel_rfl) (by kernel_rfl) (by kernel_rfl) (fun _ _ _ h => h) (Or.inl ⟨by rfl, ?_⟩) (by assumption) ?_
      rotate_left
      · intro wS hSw
        first
          | (go_simp; done)
          | (go_simp; with_reducible rfl)
      try simp only [Act.put, List.setIfInBounds_toArray, List.set_cons_zero, List.set_cons_succ]
      refine wpAnyH_take (i := 10) (oi := ({ dst := some 24, op := Op.move (Operand.tmp 0), type := 22, pos := "ref.go:8", after := #[], guard := none } : Oper)) (v := ?_) rfl (by kernel_rfl) (by kernel_rfl) (by kernel_rfl) (fun _ _ _ h => h) (Or.inl ⟨by rfl, ?_⟩) (by assumption) ?_
      rotate_left
      · intro wS hSw
        first
          | (go_simp; done)
          | (go_simp; with_reducible rfl)
      try simp only [Act.put, List.setIfInBounds_toArray, List.set_cons_zero, List.set_cons_succ]
      refine wpAnyH_take (i := 11) (oi := ({ dst := some 25, op := Op.move (Operand.tmp 6), type := 3, pos := "ref.go:8", after := #[], guard := none } : Oper)) (v := ?_) rfl (by kernel_rfl) (by kernel_rfl) (by kernel_rfl) (fun _ _ _ h => h) (Or.inl ⟨by rfl, ?_⟩) (by assumption) ?_
      rotate_left
      · intro wS hSw
        first
          | (go_simp; done)
          | (go_simp; with_reducible rfl)
      try simp only [Act.put, List.setIfInBounds_toArray, List.set_cons_zero, List.set_cons_succ]
      refine wpAnyH_take (i := 12) (oi := ({ dst := some 26, op := Op.binOp BinOp.add 3 (Operand.tmp 25) (Operand.const (Value.int IntKind.i64 1)) 3, type := 3, pos := "ref.go:8", after := #[{ on := 11, ground := Ground.data }], guard := none } : Oper)) (v := ?_) rfl (by kernel_rfl) (by kernel_rfl) (by kernel_rfl) (fun _ _ _ h => h) (Or.inl ⟨by rfl, ?_⟩) (by assumption) ?_
      rotate_left
      · intro wS hSw
        first
          | (go_simp; done)
          | (go_simp; with_reducible rfl)
      try simp only [Act.put, List.setIfInBounds_toArray, List.set_cons_zero, List.set_cons_succ]
      refine wpAnyH_take (i := 13) (oi := ({ dst := some 27, op := Op.indexAddr 22 (Operand.tmp 24) (Operand.tmp 26), type := 0, pos := "ref.go:8", after := #[{ on := 10, ground := Ground.data }, { on := 12, ground := Ground.data }], guard := none } : Oper)) (v := ?_) rfl (by kernel_rfl) (by kernel_rfl) (by kernel_rfl) (fun _ _ _ h => h) (Or.inl ⟨by rfl, ?_⟩) (by assumption) ?_
      rotate_left
      · intro wS hSw
        first
          | (go_simp; done)
          | (go_simp; with_reducible rfl)
      try simp only [Act.put, List.setIfInBounds_toArray, List.set_cons_zero, List.set_cons_succ]
      refine wpAnyH_take (i := 14) (oi := ({ dst := some 28, op := Op.load 25 (Operand.tmp 27), type := 25, pos := "ref.go:8", after := #[{ on := 13, ground := Ground.data }], guard := none } : Oper)) (v := ?_) rfl (by kernel_rfl) (by kernel_rfl) (by kernel_rfl) (fun _ _ _ h => h) (Or.inl ⟨by rfl, ?_⟩) (by assumption) ?_
      rotate_left
      · intro wS hSw
        obtain ⟨q1, q2, q3, q4, q5, q6⟩ := hSw
        first
          | (go_simp; done)
          | (go_simp; with_reducible rfl)
      try simp only [Act.put, List.setIfInBounds_toArray, List.set_cons_zero, List.set_cons_succ]
      refine wpAnyH_take (i := 15) (oi := ({ dst := some 29, op := Op.convert 25 2 (Operand.tmp 28), type := 2, pos := "ref.go:8", after := #[{ on := 14, ground := Ground.data }], guard := none } : Oper)) (v := ?_) rfl (by kernel_rfl) (by kernel_rfl) (by kernel_rfl) (fun _ _ _ h => h) (Or.inl ⟨by rfl, ?_⟩) (by assumption) ?_
      rotate_left
      · intro wS hSw
        first
          | (go_simp; done)
          | (go_simp; with_reducible rfl)
      try simp only [Act.put, List.setIfInBounds_toArray, List.set_cons_zero, List.set_cons_succ]
      refine wpAnyH_take (i := 16) (oi := ({ dst := some 30, op := Op.indexAddr 24 (Operand.tmp 3) (Operand.const (Value.int IntKind.i64 1)), type := 0, pos := "ref.go:8", after := #[], guard := none } : Oper)) (v := ?_) rfl (by kernel_rfl) (by kernel_rfl) (by kernel_rfl) (fun _ _ _ h => h) (Or.inl ⟨by rfl, ?_⟩) (by assumption) ?_
      rotate_left
      · intro wS hSw
        first
          | (go_simp; done)
          | (go_simp; with_reducible rfl)
      try simp only [Act.put, List.setIfInBounds_toArray, List.set_cons_zero, List.set_cons_succ]
      refine wpAnyH_take (i := 17) (oi := ({ dst := some 31, op := Op.load 23 (Operand.tmp 30), type := 23, pos := "ref.go:8", after := #[{ on := 16, ground := Ground.data }], guard := none } : Oper)) (v := ?_) rfl (by kernel_rfl) (by kernel_rfl) (by kernel_rfl) (fun _ _ _ h => h) (Or.inl ⟨by rfl, ?_⟩) (by assumption) ?_
      rotate_left
      · intro wS hSw
        obtain ⟨q1, q2, q3, q4, q5, q6⟩ := hSw
        first
          | (go_simp; done)
          | (go_simp; with_reducible rfl)
      try simp only [Act.put, List.setIfInBounds_toArray, List.set_cons_zero, List.set_cons_succ]
      refine wpAnyH_take (i := 18) (oi := ({ dst := some 32, op := Op.convert 23 2 (Operand.tmp 31), type := 2, pos := "ref.go:8", after := #[{ on := 17, ground := Ground.data }], guard := none } : Oper)) (v := ?_) rfl (by kernel_rfl) (by kernel_rfl) (by kernel_rfl) (fun _ _ _ h => h) (Or.inl ⟨by rfl, ?_⟩) (by assumption) ?_
      rotate_left
      · intro wS hSw
        first
          | (go_simp; done)
          | (go_simp; with_reducible rfl)
      try simp only [Act.put, List.setIfInBounds_toArray, List.set_cons_zero, List.set_cons_succ]
      refine wpAnyH_take (i := 19) (oi := ({ dst := some 33, op := Op.binOp BinOp.mul 2 (Operand.tmp 29) (Operand.tmp 32) 2, type := 2, pos := "ref.go:8", after := #[{ on := 15, ground := Ground.data }, { on := 18, ground := Ground.data }], guard := none } : Oper)) (v := ?_) rfl (by kernel_rfl) (by kernel_rfl) (by kernel_rfl) (fun _ _ _ h => h) (Or.inl ⟨by rfl, ?_⟩) (by assumption) ?_
      rotate_left
      · intro wS hSw
        first
          | (go_simp; done)
          | (go_simp; with_reducible rfl)
      try simp only [Act.put, List.setIfInBounds_toArray, List.set_cons_zero, List.set_cons_succ]
      refine wpAnyH_take (i := 20) (oi := ({ dst := some 34, op := Op.binOp BinOp.add 2 (Operand.tmp 23) (Operand.tmp 33) 2, type := 2, pos := "ref.go:8", after := #[{ on := 9, ground := Ground.data }, { on := 19, ground := Ground.data }], guard := none } : Oper)) (v := ?_) rfl (by kernel_rfl) (by kernel_rfl) (by kernel_rfl) (fun _ _ _ h => h) (Or.inl ⟨by rfl, ?_⟩) (by assumption) ?_
      rotate_left
      · intro wS hSw
        first
          | (go_simp; done)
          | (go_simp; with_reducible rfl)
      try simp only [Act.put, List.setIfInBounds_toArray, List.set_cons_zero, List.set_cons_succ]
      refine wpAnyH_take (i := 21) (oi := ({ dst := some 35, op := Op.move (Operand.tmp 0), type := 22, pos := "ref.go:8", after := #[], guard := none } : Oper)) (v := ?_) rfl (by kernel_rfl) (by kernel_rfl) (by kernel_rfl) (fun _ _ _ h => h) (Or.inl ⟨by rfl, ?_⟩) (by assumption) ?_
      rotate_left
      · intro wS hSw
        first
          | (go_simp; done)
          | (go_simp; with_reducible rfl)
      try simp only [Act.put, List.setIfInBounds_toArray, List.set_cons_zero, List.set_cons_succ]
      refine wpAnyH_take (i := 22) (oi := ({ dst := some 36, op := Op.move (Operand.tmp 6), type := 3, pos := "ref.go:8", after := #[], guard := none } : Oper)) (v := ?_) rfl (by kernel_rfl) (by kernel_rfl) (by kernel_rfl) (fun _ _ _ h => h) (Or.inl ⟨by rfl, ?_⟩) (by assumption) ?_
      rotate_left
      · intro wS hSw
        first
          | (go_simp; done)
          | (go_simp; with_reducible rfl)
      try simp only [Act.put, List.setIfInBounds_toArray, List.set_cons_zero, List.set_cons_succ]
      refine wpAnyH_take (i := 23) (oi := ({ dst := some 37, op := Op.binOp BinOp.add 3 (Operand.tmp 36) (Operand.const (Value.int IntKind.i64 2)) 3, type := 3, pos := "ref.go:8", after := #[{ on := 22, ground := Ground.data }], guard := none } : Oper)) (v := ?_) rfl (by kernel_rfl) (by kernel_rfl) (by kernel_rfl) (fun _ _ _ h => h) (Or.inl ⟨by rfl, ?_⟩) (by assumption) ?_
      rotate_left
      · intro wS hSw
        first
          | (go_simp; done)
          | (go_simp; with_reducible rfl)
      try simp only [Act.put, List.setIfInBounds_toArray, List.set_cons_zero, List.set_cons_succ]
      refine wpAnyH_take (i := 24) (oi := ({ dst := some 38, op := Op.indexAddr 22 (Operand.tmp 35) (Operand.tmp 37), type := 0, pos := "ref.go:8", after := #[{ on := 21, ground := Ground.data }, { on := 23, ground := Ground.data }], guard := none } : Oper)) (v := ?_) rfl (by kernel_rfl) (by kernel_rfl) (by kernel_rfl) (fun _ _ _ h => h) (Or.inl ⟨by rfl, ?_⟩) (by assumption) ?_
      rotate_left
      · intro wS hSw
        first
          | (go_simp; done)
          | (go_simp; with_reducible rfl)
      try simp only [Act.put, List.setIfInBounds_toArray, List.set_cons_zero, List.set_cons_succ]
      refine wpAnyH_take (i := 25) (oi := ({ dst := some 39, op := Op.load 25 (Operand.tmp 38), type := 25, pos := "ref.go:8", after := #[{ on := 24, ground := Ground.data }], guard := none } : Oper)) (v := ?_) rfl (by kernel_rfl) (by kernel_rfl) (by kernel_rfl) (fun _ _ _ h => h) (Or.inl ⟨by rfl, ?_⟩) (by assumption) ?_
      rotate_left
      · intro wS hSw
        obtain ⟨q1, q2, q3, q4, q5, q6⟩ := hSw
        first
          | (go_simp; done)
          | (go_simp; with_reducible rfl)
      try simp only [Act.put, List.setIfInBounds_toArray, List.set_cons_zero, List.set_cons_succ]
      refine wpAnyH_take (i := 26) (oi := ({ dst := some 40, op := Op.convert 25 2 (Operand.tmp 39), type := 2, pos := "ref.go:8", after := #[{ on := 25, ground := Ground.data }], guard := none } : Oper)) (v := ?_) rfl (by kernel_rfl) (by kernel_rfl) (by kernel_rfl) (fun _ _ _ h => h) (Or.inl ⟨by rfl, ?_⟩) (by assumption) ?_
      rotate_left
      · intro wS hSw
        first
          | (go_simp; done)
          | (go_simp; with_reducible rfl)
      try simp only [Act.put, List.setIfInBounds_toArray, List.set_cons_zero, List.set_cons_succ]
      refine wpAnyH_take (i := 27) (oi := ({ dst := some 41, op := Op.indexAddr 24 (Operand.tmp 3) (Operand.const (Value.int IntKind.i64 2)), type := 0, pos := "ref.go:8", after := #[], guard := none } : Oper)) (v := ?_) rfl (by kernel_rfl) (by kernel_rfl) (by kernel_rfl) (fun _ _ _ h => h) (Or.inl ⟨by rfl, ?_⟩) (by assumption) ?_
      rotate_left
      · intro wS hSw
        first
          | (go_simp; done)
          | (go_simp; with_reducible rfl)
      try simp only [Act.put, List.setIfInBounds_toArray, List.set_cons_zero, List.set_cons_succ]
      refine wpAnyH_take (i := 28) (oi := ({ dst := some 42, op := Op.load 23 (Operand.tmp 41), type := 23, pos := "ref.go:8", after := #[{ on := 27, ground := Ground.data }], guard := none } : Oper)) (v := ?_) rfl (by kernel_rfl) (by kernel_rfl) (by kernel_rfl) (fun _ _ _ h => h) (Or.inl ⟨by rfl, ?_⟩) (by assumption) ?_
      rotate_left
      · intro wS hSw
        obtain ⟨q1, q2, q3, q4, q5, q6⟩ := hSw
        first
          | (go_simp; done)
          | (go_simp; with_reducible rfl)
      try simp only [Act.put, List.setIfInBounds_toArray, List.set_cons_zero, List.set_cons_succ]
      refine wpAnyH_take (i := 29) (oi := ({ dst := some 43, op := Op.convert 23 2 (Operand.tmp 42), type := 2, pos := "ref.go:8", after := #[{ on := 28, ground := Ground.data }], guard := none } : Oper)) (v := ?_) rfl (by kernel_rfl) (by kernel_rfl) (by kernel_rfl) (fun _ _ _ h => h) (Or.inl ⟨by rfl, ?_⟩) (by assumption) ?_
      rotate_left
      · intro wS hSw
        first
          | (go_simp; done)
          | (go_simp; with_reducible rfl)
      try simp only [Act.put, List.setIfInBounds_toArray, List.set_cons_zero, List.set_cons_succ]
      refine wpAnyH_take (i := 30) (oi := ({ dst := some 44, op := Op.binOp BinOp.mul 2 (Operand.tmp 40) (Operand.tmp 43) 2, type := 2, pos := "ref.go:8", after := #[{ on := 26, ground := Ground.data }, { on := 29, ground := Ground.data }], guard := none } : Oper)) (v := ?_) rfl (by kernel_rfl) (by kernel_rfl) (by kernel_rfl) (fun _ _ _ h => h) (Or.inl ⟨by rfl, ?_⟩) (by assumption) ?_
      rotate_left
      · intro wS hSw
        first
          | (go_simp; done)
          | (go_simp; with_reducible rfl)
      try simp only [Act.put, List.setIfInBounds_toArray, List.set_cons_zero, List.set_cons_succ]
      refine wpAnyH_take (i := 31) (oi := ({ dst := some 45, op := Op.binOp BinOp.add 2 (Operand.tmp 34) (Operand.tmp 44) 2, type := 2, pos := "ref.go:8", after := #[{ on := 20, ground := Ground.data }, { on := 30, ground := Ground.data }], guard := none } : Oper)) (v := ?_) rfl (by kernel_rfl) (by kernel_rfl) (by kernel_rfl) (fun _ _ _ h => h) (Or.inl ⟨by rfl, ?_⟩) (by assumption) ?_
      rotate_left
      · intro wS hSw
        first
          | (go_simp; done)
          | (go_simp; with_reducible rfl)
      try simp only [Act.put, List.setIfInBounds_toArray, List.set_cons_zero, List.set_cons_succ]
      refine wpAnyH_ready (rs := [32]) (by kernel_rfl) (by simp) ?_
      refine AllReadyH.cons (o := ({ dst := some 46, op := Op.buildSlice 28 1 #[(0, Operand.tmp 45)], type := 28, pos := "ref.go:8", after := #[{ on := 31, ground := Ground.data }], guard := none } : Oper)) rfl (fun K hK => ?_) (AllReadyH.nil)
      go_simp
      have hal : Below (w.heap.size + 1) Wd (Wd.alloc (.cells #[.int .i64 r] 2)) := (Below.refl _ _).alloc hgz2 _
      have HRN := Lib.hid (Kit.Rd.new Wd [.int .i64 r] 2 (Nat.lt_succ_self _))
      have HOA := Lib.hid (Kit.own_below HO.out ((Below.refl Wd.heap.size Wd).alloc (Nat.le_refl _) (.cells #[.int .i64 r] 2)))
      refine hK.out _ _ ?_ (fun hHeld => ?_)
      · exact HSB.out _ hal
      clear hK K
      try simp only [Act.put, List.setIfInBounds_toArray, List.set_cons_zero, List.set_cons_succ]
      refine wpAnyH_ready (rs := [33]) (by kernel_rfl) (by simp) ?_
      refine AllReadyH.cons (o := ({ dst := some 47, op := Op.call { callee := Callee.builtin Builtin.append, args := #[Operand.tmp 14, Operand.tmp 46], argTypes := #[28, 28] }, type := 28, pos := "ref.go:8", after := #[{ on := 0, ground := Ground.data }, { on := 32, ground := Ground.data }], guard := none } : Oper)) rfl (fun K hK => ?_) (AllReadyH.nil)
      refine Kit.step_append_rd _ rfl (.tmp 14) (.tmp 46) _ rfl (w.heap.size + 1) 2 i0 (.int .i64 0) 1 8 Try.underlying28 HI.out.1 HI.out.2.1 HI.out.2.2.1 HI.out.2.2.2 rfl (by decide) _ k (I64v (nums F k)) rfl HOA.out _ _ 1 1 [.int .i64 r] rfl rfl HRN.out (Kit.ints_one .i64 [r]) (by unfold maxLen; omega) (by omega) (by simp; omega) ?_
      intro v2 w5 hown2 hg2 hat2
      have hbA : Below (w.heap.size + 1) Wd w5 := hal.grown hg2 (by simp; omega) (fun q hq => Kit.own_block_ge HO.out q hq)
      refine hK.out _ _ ?_ (fun hHeld => ?_)
      · exact HSB.out _ hbA
      clear hK K
      try simp only [Act.put, List.setIfInBounds_toArray, List.set_cons_zero, List.set_cons_succ]
      refine wpAnyH_take (i := 34) (oi := ({ dst := some 5, op := Op.assign (Operand.tmp 47), type := 28, pos := "ref.go:8", after := #[{ on := 33, ground := Ground.data }, { on := 33, ground := Ground.chain }, { on := 0, ground := Ground.phase }, { on := 1, ground := Ground.phase }, { on := 2, ground := Ground.phase }, { on := 3, ground := Ground.phase }, { on := 4, ground := Ground.phase }, { on := 5, ground := Ground.phase }, { on := 6, ground := Ground.phase }, { on := 7, ground := Ground.phase }, { on := 8, ground := Ground.phase }, { on := 9, ground := Ground.phase }, { on := 10, ground := Ground.phase }, { on := 11, ground := Ground.phase }, { on := 12, ground := Ground.phase }, { on := 13, ground := Ground.phase }, { on := 14, ground := Ground.phase }, { on := 15, ground := Ground.phase }, { on := 16, ground := Ground.phase }, { on := 17, ground := Ground.phase }, { on := 18, ground := Ground.phase }, { on := 19, ground := Ground.phase }, { on := 20, ground := Ground.phase }, { on := 21, ground := Ground.phase }, { on := 22, ground := Ground.phase }, { on := 23, ground := Ground.phase }, { on := 24, ground := Ground.phase }, { on := 25, ground := Ground.phase }, { on := 26, ground := Ground.phase }, { on := 27, ground := Ground.phase }, { on := 28, ground := Ground.phase }, { on := 29, ground := Ground.phase }, { on := 30, ground := Ground.phase }, { on := 31, ground := Ground.phase }, { on := 32, ground := Ground.phase }, { on := 33, ground := Ground.phase }], guard := none } : Oper)) (v := ?_) rfl (by kernel_rfl) (by kernel_rfl) (by kernel_rfl) (fun _ _ _ h => h) (Or.inl ⟨by rfl, ?_⟩) (by assumption) ?_
      rotate_left
      · intro wS hSw
        first
          | (go_simp; done)
          | (go_simp; with_reducible rfl)
      try simp only [Act.put, List.setIfInBounds_toArray, List.set_cons_zero, List.set_cons_succ]
      have e5 : I64v (nums F k) ++ [.int .i64 r] = I64v (nums F (k + 1)) := by
        rw [nums_succ, HFK.out]; show _ = (nums F k ++ [r]).map _; rw [List.map_append]; rfl
      rw [e5] at hown2
      have HO5 := Lib.hid hown2
      have HT5 := Lib.hid (HT.out.below hbA (Nat.lt_succ_self _))
      have HR5 := Lib.hid (HR2.out.below (hbA.mono (Nat.le_succ _)))
      have HB5 := Lib.hid (HB.out.trans (hbA.mono (Nat.le_succ _)))
      clear hown2 hg2 hat2 hbA e5
      have hj1 := HJ.out
      subst hj1
      refine wpAnyH_done (by kernel_rfl) ?_ _
      clear hHeld w0 w1 w2 wx wy wz m0 m1 m2 m3 m4 hal HRN HOA
      go_wp2_with fail
      go_roundw
      case rel => exact ⟨k + 1, by omega, by go_num, HO5, HT5, HR5, HB5⟩
      case measure => simp [intOf]; omega
    · obtain rfl : k = m := by omega
      have s3 : ¬ (j2 : Int) < (n : Int) := by have := HM.out; omega
      obtain ⟨V, cV, rfl, -, -, -⟩ := Kit.own_rd HO.out
      clear hj1 hj2
      go_wp2_with fail
      go_ret
      exact ⟨_, rfl, Kit.own_base HO.out (Nat.le_succ _), HB.out⟩
end Go.Proofs.Ytbegabagokapoaa.CWheel
