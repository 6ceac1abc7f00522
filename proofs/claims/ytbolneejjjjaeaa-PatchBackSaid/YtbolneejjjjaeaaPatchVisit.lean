/- Layer 11 (patch): what a visit adds to the rows (code). -/
import Derived.Test.YtbolneejjjjaeaaPatchHelp
namespace Go.Proofs.Ytbolneejjjjaeaa.CPatch
open Go Go.ChangeShapes Go.WideShapes Go.ChangeAt Go.RowKit
open Plain CSat CShape CTensor CConv
set_option linter.unusedVariables false

def I16v (zs : List Int) : List Value := zs.map (.int .i16)
def upto (F : Nat → Int) (m t : Nat) : Int := if t < m then F t else 0
def listF (F : Nat → Int) (N : Nat) : List Int := (List.range N).map F
theorem listF_len (F : Nat → Int) (N : Nat) : (listF F N).length = N := by simp [listF]
theorem listF_at (F : Nat → Int) {N i : Nat} (h : i < N) : (listF F N)[i]? = some (F i) := by simp [listF, h]
theorem listF_congr {F G : Nat → Int} {n : Nat} (h : ∀ i, i < n → F i = G i) : listF F n = listF G n := by
  apply List.ext_getElem?
  intro i
  by_cases hi : i < n
  · rw [listF_at F hi, listF_at G hi, h i hi]
  · rw [List.getElem?_eq_none (by rw [listF_len]; omega), List.getElem?_eq_none (by rw [listF_len]; omega)]
theorem listF_set (F : Nat → Int) {N m : Nat} (x : Int) (hx : F m = x) : (listF (upto F m) N).set m x = listF (upto F (m + 1)) N := by
  apply List.ext_getElem?
  intro i
  rw [List.getElem?_set]
  by_cases hi : i < N
  · by_cases e : m = i
    · subst e
      rw [if_pos rfl, if_pos (by rw [listF_len]; exact hi), listF_at _ hi]
      simp [upto, hx]
    · rw [if_neg e, listF_at _ hi, listF_at _ hi]
      simp only [upto]
      by_cases h1 : i < m
      · rw [if_pos h1, if_pos (by omega)]
      · rw [if_neg h1, if_neg (by omega)]
  · have e1 : (listF (upto F (m + 1)) N)[i]? = none := List.getElem?_eq_none (by rw [listF_len]; omega)
    have e2 : (listF (upto F m) N)[i]? = none := List.getElem?_eq_none (by rw [listF_len]; omega)
    rw [e1, e2]
    by_cases e : m = i
    · rw [if_pos e, if_neg (by rw [listF_len]; omega)]
    · rw [if_neg e]
theorem I16v_set (ys : List Int) (i : Nat) (x : Int) : (I16v ys).set i (.int .i16 x) = I16v (ys.set i x) := by simp [I16v, List.map_set]
/-- the box of rows. -/
def RowsAt (B : Nat) (M Wd : Int) (gd N : Nat) (w : World) : Prop :=
  w.cell? ⟨B, 0, none⟩ = some (.int .i64 M) ∧ w.cell? ⟨B, 1, none⟩ = some (.int .i64 Wd) ∧ w.cell? ⟨B, 2, none⟩ = some (.slice (some ⟨gd, 0, none⟩) N N)
theorem BoxAt_grown {B gd : Nat} {H W C : Int} {A : Option Addr} {n c : Nat} {w w' : World} (h : BoxAt B H W C A n c w) (hg : w.grownBy w' (some gd)) (hne : gd ≠ B) : BoxAt B H W C A n c w' := by
  have hB : B < w.heap.size := Kit.block_lt h.1
  exact ⟨(hg.cell_far ⟨B, 0, none⟩ hB (by simp; omega)).trans h.1, (hg.cell_far ⟨B, 1, none⟩ hB (by simp; omega)).trans h.2.1, (hg.cell_far ⟨B, 2, none⟩ hB (by simp; omega)).trans h.2.2.1, (hg.cell_far ⟨B, 3, none⟩ hB (by simp; omega)).trans h.2.2.2⟩
theorem RowsAt_grown {B gd N gr : Nat} {M Wd : Int} {w w' : World} (h : RowsAt B M Wd gd N w) (hg : w.grownBy w' (some gr)) (hne : gr ≠ B) : RowsAt B M Wd gd N w' := by
  have hB : B < w.heap.size := Kit.block_lt h.1
  exact ⟨(hg.cell_far ⟨B, 0, none⟩ hB (by simp; omega)).trans h.1, (hg.cell_far ⟨B, 1, none⟩ hB (by simp; omega)).trans h.2.1, (hg.cell_far ⟨B, 2, none⟩ hB (by simp; omega)).trans h.2.2⟩
theorem NodeAt_size {B : Nat} {x0 x1 x2 x8 x11 x12 x13 x14 x15 x16 x17 x18 : Value} {K S P O Z : Int} {WA BA : Option Addr} {nW cW nB cB : Nat} {w : World} (h : NodeAt B x0 x1 x2 x8 x11 x12 x13 x14 x15 x16 x17 x18 K S P O Z WA BA nW cW nB cB w) : B < w.heap.size := Kit.block_lt (h.at 0 _ rfl)
theorem Rd_grown {w w' : World} {B gd : Nat} {A : Option Addr} {xs : List Value} (h : Kit.Rd w B A xs) (hg : w.grownBy w' (some gd)) (hB : B ≤ w.heap.size) (hgd : B ≤ gd) : Kit.Rd w' B A xs :=
  h.keep fun p hp => hg.cell_far p (by omega) (by simp; omega)
theorem grown_set (w : World) (g o : Nat) (v : Value) : w.grownBy (w.setCell ⟨g, o, none⟩ v) (some g) := ⟨rfl, rfl, rfl, by simp, fun k _ hk => Below.heap_setCell _ _ _ k (fun e => hk (by rw [e]))⟩
/-- how it stands behind k places. -/
def OfAt (pt pn pr gd B0 : Nat) (H W C : Int) (A : Option Addr) (n c : Nat) (x0 x1 x2 x8 x11 x12 x13 x14 x15 x16 x17 x18 : Value) (K S P O Z : Int) (WA BA : Option Addr) (nW cW nB cB : Nat) (M Wd : Int) (N : Nat) (zs : List Int) (F : Nat → Int) (d k : Nat) (v : World) : Prop :=
  BoxAt pt H W C A n c v ∧ NodeAt pn x0 x1 x2 x8 x11 x12 x13 x14 x15 x16 x17 x18 K S P O Z WA BA nW cW nB cB v ∧ RowsAt pr M Wd gd N v ∧ v.ownsRow B0 51 1 (.slice (some ⟨gd, 0, none⟩) N N) N (I16v (listF (upto F (k * d)) N)) ∧ Kit.Rd v B0 A (I8s zs) ∧ B0 ≤ v.heap.size
theorem OfAt.stay {pt pn pr gd B0 : Nat} {H W C : Int} {A : Option Addr} {n c : Nat} {x0 x1 x2 x8 x11 x12 x13 x14 x15 x16 x17 x18 : Value} {K S P O Z : Int} {WA BA : Option Addr} {nW cW nB cB : Nat} {M Wd : Int} {N : Nat} {zs : List Int} {F : Nat → Int} {d k : Nat} {v v' : World}
    (h : OfAt pt pn pr gd B0 H W C A n c x0 x1 x2 x8 x11 x12 x13 x14 x15 x16 x17 x18 K S P O Z WA BA nW cW nB cB M Wd N zs F d k v) (hb : Below v.heap.size v v') : OfAt pt pn pr gd B0 H W C A n c x0 x1 x2 x8 x11 x12 x13 x14 x15 x16 x17 x18 K S P O Z WA BA nW cW nB cB M Wd N zs F d k v' := by
  obtain ⟨h1, h2, h3, h4, h5, h6⟩ := h
  have z3 : pr < v.heap.size := Kit.block_lt h3.1
  exact ⟨h1.below (B' := v.heap.size) (Kit.block_lt h1.1) hb, h2.below (B' := v.heap.size) (NodeAt_size h2) hb,
    ⟨(hb.cell (p := ⟨pr, 0, none⟩) z3).trans h3.1, (hb.cell (p := ⟨pr, 1, none⟩) z3).trans h3.2.1, (hb.cell (p := ⟨pr, 2, none⟩) z3).trans h3.2.2⟩, Kit.own_below h4 hb, h5.below (hb.mono h6), Nat.le_trans h6 hb.size⟩

set_option maxRecDepth 100000 in
set_option maxHeartbeats 4000000 in
theorem visit_of (pt pn pr gd B0 : Nat) (n1 : gd ≠ pt) (n2 : gd ≠ pn) (n3 : gd ≠ pr) (hgB : B0 ≤ gd) (H W C : Int) (bz oz n c : Nat) (x0 x1 x2 x8 x11 x12 x13 x14 x15 x16 x17 x18 : Value) (K S P O Z : Int) (WA BA : Option Addr) (nW cW nB cB : Nat) (M Wd : Int) (N : Nat) (zs : List Int) (F : Nat → Int) (d k at_ pos : Nat) (hd : C = (d : Int)) (hn : zs.length = n) (hz : I8b zs) (z1 : -128 ≤ Z) (z2 : Z ≤ 127)
    (hat : k * d = at_) (hN : at_ + d ≤ N) (hN1 : N ≤ 30000000) (hpos : pos + d ≤ n) (hn1 : n ≤ 1024) (hF : ∀ q, q < d → F (at_ + q) = zs.getD (pos + q) 0 - Z) (v : World) (hI : OfAt pt pn pr gd B0 H W C (some ⟨bz, oz, none⟩) n c x0 x1 x2 x8 x11 x12 x13 x14 x15 x16 x17 x18 K S P O Z WA BA nW cW nB cB M Wd N zs F d k v) :
    Calls Try.prog 22 #[.int .i64 (at_ : Int), .int .i64 (pos : Int), .pointer (some ⟨pt, 0, none⟩), .pointer (some ⟨pn, 0, none⟩), .pointer (some ⟨pr, 0, none⟩)] v fun e v' => (∃ u, e = .returned u) ∧ OfAt pt pn pr gd B0 H W C (some ⟨bz, oz, none⟩) n c x0 x1 x2 x8 x11 x12 x13 x14 x15 x16 x17 x18 K S P O Z WA BA nW cW nB cB M Wd N zs F d (k + 1) v' ∧ v.grownBy v' (some gd) := by
  obtain ⟨h1, h2, h3, h4, h5, h6⟩ := hI
  have T1 := Lib.hid h1
  have T2 := Lib.hid h2
  have T3 := Lib.hid h3
  rw [hat] at h4
  have HO := Lib.hid h4
  have HR := Lib.hid h5
  have HG : Hid (v.grownBy v (some gd)) := Lib.hid (World.grownBy.refl v _)
  have HAT := Lib.hid hat
  have HF := Lib.hid hF
  have HZ := Lib.hid hz
  have HN := Lib.hid hn
  have hz6 := h6
  subst hd
  obtain ⟨tb0, tb1, tb2, tb3⟩ := T1.out
  clear h1 h2 h3 h4 h5 h6 hat hF hz hn
  go_enter Try.func22, Try.ntmps22
  go_wp2_with fail
  clear tb0 tb1 tb2 tb3
  go_loopw [11] (fun u wr => ∃ q : Nat, q ≤ d ∧ u = .int .i64 q ∧ Hid (BoxAt pt H W (d : Int) (some ⟨bz, oz, none⟩) n c wr) ∧ Hid (NodeAt pn x0 x1 x2 x8 x11 x12 x13 x14 x15 x16 x17 x18 K S P O Z WA BA nW cW nB cB wr) ∧ Hid (RowsAt pr M Wd gd N wr) ∧ Hid (wr.ownsRow B0 51 1 (.slice (some ⟨gd, 0, none⟩) N N) N (I16v (listF (upto F (at_ + q)) N))) ∧ Hid (Kit.Rd wr B0 (some ⟨bz, oz, none⟩) (I8s zs)) ∧ Hid (v.grownBy wr (some gd)) ∧ B0 ≤ wr.heap.size) (fun u _ => d - (intOf u).toNat)
  case atStart => exact ⟨0, Nat.zero_le _, rfl, T1, T2, T3, HO, HR, HG, hz6⟩
  case round =>
    clear T1 T2 T3 HO HR HG hz6
    obtain ⟨q, hq, rfl, T1, T2, T3, HO, HR, HG, hz6⟩ := hrel
    by_cases hlt : q < d
    · have hqI : (q : Int) < (d : Int) := by omega
      obtain ⟨tb0, tb1, tb2, tb3⟩ := T1.out
      obtain ⟨tr0, tr1, tr2⟩ := T3.out
      have n7 := T2.out.at 7 _ rfl
      obtain ⟨a1, ha1⟩ : ∃ a1, at_ + q = a1 := ⟨_, rfl⟩
      obtain ⟨p1, hp1⟩ : ∃ p1, pos + q = p1 := ⟨_, rfl⟩
      have f1 : IntKind.i64.wrap ((at_ : Int) + (q : Int)) = (a1 : Int) := by rw [IntWalk.i64_in _ (by omega)]; omega
      have f2 : IntKind.i64.wrap ((pos : Int) + (q : Int)) = (p1 : Int) := by rw [IntWalk.i64_in _ (by omega)]; omega
      have s1 : (0 : Int) ≤ (a1 : Int) := by omega
      have s2 : (a1 : Int) < (N : Int) := by omega
      have s3 : (0 : Int) ≤ (p1 : Int) := by omega
      have s4 : (p1 : Int) < (n : Int) := by omega
      obtain ⟨b', o', hbo, hbz, hcz⟩ := ints_getD HR.out (j := 0) (by have := HN.out; omega)
      cases hbo
      have hcx := hcz p1 (by have := HN.out; omega)
      have hFq := HF.out q hlt
      rw [ha1, hp1] at hFq
      obtain ⟨x1, x2⟩ := HZ.out p1
      generalize zs.getD p1 0 = x at hcx hFq x1 x2
      have k1 : IntKind.i16.wrap x = x := IntWalk.i16_in _ (by omega)
      have k2 : IntKind.i16.wrap Z = Z := IntWalk.i16_in _ (by omega)
      have k3 : IntKind.i16.wrap (x - Z) = x - Z := IntWalk.i16_in _ (by omega)
      have hfr : wr.frozen? ⟨gd, a1, none⟩ = false := HO.out.frozenAt a1
      have hcl : ∃ u, wr.cell? ⟨gd, a1, none⟩ = some u := ⟨_, (HO.out.cellAt a1 (by omega)).trans (List.getElem?_eq_getElem (by simp [I16v, listF]; omega))⟩
      obtain ⟨vold, hcl⟩ := hcl
      have hbg : gd ≠ bz := by omega
      have HFQ := Lib.hid hFq
      have HA1 := Lib.hid ha1
      clear hcz hFq ha1 hp1
      go_wp2_with fail
      refine wp_region_held_drew (S := fun w' => w'.cell? ⟨pr, 2, none⟩ = some (.slice (some ⟨gd, 0, none⟩) N N) ∧ w'.cell? ⟨pt, 3, none⟩ = some (.slice (some ⟨bz, oz, none⟩) n c) ∧ w'.cell? ⟨bz, oz + p1, none⟩ = some (.int .i8 x) ∧ w'.cell? ⟨pn, 7, none⟩ = some (.int .i8 Z)) (by kernel_rfl) ⟨tr2, tb3, hcx, n7⟩ (fun hHeld => ?_)
      clear tb0 tb1 tb2 tb3 tr0 tr1 tr2 n7 hcx
      refine wpAnyH_take (i := 0) (oi := ({ dst := some 14, op := Op.fieldAddr 37 (Operand.tmp 4) 2, type := 0, pos := "patch.go:34", after := #[], guard := none } : Oper)) (v := ?_) rfl (by kernel_rfl) (by kernel_rfl) (by kernel_rfl) (fun _ _ _ h => h) (Or.inl ⟨by rfl, ?_⟩) (by assumption) ?_
      rotate_left
      · intro wS hSw
        first
          | (go_simp; done)
          | (go_simp; with_reducible rfl)
      try simp only [Act.put, List.setIfInBounds_toArray, List.set_cons_zero, List.set_cons_succ]
      refine wpAnyH_take (i := 1) (oi := ({ dst := some 15, op := Op.load 31 (Operand.tmp 14), type := 31, pos := "patch.go:34", after := #[{ on := 0, ground := Ground.data }], guard := none } : Oper)) (v := ?_) rfl (by kernel_rfl) (by kernel_rfl) (by kernel_rfl) (fun _ _ _ h => h) (Or.inl ⟨by rfl, ?_⟩) (by assumption) ?_
      rotate_left
      · intro wS hSw
        obtain ⟨hq1, hq2, hq3, hq4⟩ := hSw
        first
          | (go_simp; done)
          | (go_simp; with_reducible rfl)
      try simp only [Act.put, List.setIfInBounds_toArray, List.set_cons_zero, List.set_cons_succ]
      refine wpAnyH_take (i := 2) (oi := ({ dst := some 16, op := Op.move (Operand.tmp 0), type := 3, pos := "patch.go:34", after := #[], guard := none } : Oper)) (v := ?_) rfl (by kernel_rfl) (by kernel_rfl) (by kernel_rfl) (fun _ _ _ h => h) (Or.inl ⟨by rfl, ?_⟩) (by assumption) ?_
      rotate_left
      · intro wS hSw
        first
          | (go_simp; done)
          | (go_simp; with_reducible rfl)
      try simp only [Act.put, List.setIfInBounds_toArray, List.set_cons_zero, List.set_cons_succ]
      refine wpAnyH_take (i := 3) (oi := ({ dst := some 17, op := Op.move (Operand.tmp 7), type := 3, pos := "patch.go:34", after := #[], guard := none } : Oper)) (v := ?_) rfl (by kernel_rfl) (by kernel_rfl) (by kernel_rfl) (fun _ _ _ h => h) (Or.inl ⟨by rfl, ?_⟩) (by assumption) ?_
      rotate_left
      · intro wS hSw
        first
          | (go_simp; done)
          | (go_simp; with_reducible rfl)
      try simp only [Act.put, List.setIfInBounds_toArray, List.set_cons_zero, List.set_cons_succ]
      refine wpAnyH_take (i := 4) (oi := ({ dst := some 18, op := Op.binOp BinOp.add 3 (Operand.tmp 16) (Operand.tmp 17) 3, type := 3, pos := "patch.go:34", after := #[{ on := 2, ground := Ground.data }, { on := 3, ground := Ground.data }], guard := none } : Oper)) (v := ?_) rfl (by kernel_rfl) (by kernel_rfl) (by kernel_rfl) (fun _ _ _ h => h) (Or.inl ⟨by rfl, ?_⟩) (by assumption) ?_
      rotate_left
      · intro wS hSw
        first
          | (go_simp; done)
          | (go_simp; with_reducible rfl)
      try simp only [Act.put, List.setIfInBounds_toArray, List.set_cons_zero, List.set_cons_succ]
      refine wpAnyH_take (i := 5) (oi := ({ dst := some 19, op := Op.fieldAddr 45 (Operand.tmp 2) 1, type := 0, pos := "patch.go:34", after := #[], guard := none } : Oper)) (v := ?_) rfl (by kernel_rfl) (by kernel_rfl) (by kernel_rfl) (fun _ _ _ h => h) (Or.inl ⟨by rfl, ?_⟩) (by assumption) ?_
      rotate_left
      · intro wS hSw
        first
          | (go_simp; done)
          | (go_simp; with_reducible rfl)
      try simp only [Act.put, List.setIfInBounds_toArray, List.set_cons_zero, List.set_cons_succ]
      refine wpAnyH_take (i := 6) (oi := ({ dst := some 20, op := Op.load 25 (Operand.tmp 19), type := 25, pos := "patch.go:34", after := #[{ on := 5, ground := Ground.data }], guard := none } : Oper)) (v := ?_) rfl (by kernel_rfl) (by kernel_rfl) (by kernel_rfl) (fun _ _ _ h => h) (Or.inl ⟨by rfl, ?_⟩) (by assumption) ?_
      rotate_left
      · intro wS hSw
        obtain ⟨hq1, hq2, hq3, hq4⟩ := hSw
        first
          | (go_simp; done)
          | (go_simp; with_reducible rfl)
      try simp only [Act.put, List.setIfInBounds_toArray, List.set_cons_zero, List.set_cons_succ]
      refine wpAnyH_take (i := 7) (oi := ({ dst := some 21, op := Op.move (Operand.tmp 1), type := 3, pos := "patch.go:34", after := #[], guard := none } : Oper)) (v := ?_) rfl (by kernel_rfl) (by kernel_rfl) (by kernel_rfl) (fun _ _ _ h => h) (Or.inl ⟨by rfl, ?_⟩) (by assumption) ?_
      rotate_left
      · intro wS hSw
        first
          | (go_simp; done)
          | (go_simp; with_reducible rfl)
      try simp only [Act.put, List.setIfInBounds_toArray, List.set_cons_zero, List.set_cons_succ]
      refine wpAnyH_take (i := 8) (oi := ({ dst := some 22, op := Op.move (Operand.tmp 7), type := 3, pos := "patch.go:34", after := #[], guard := none } : Oper)) (v := ?_) rfl (by kernel_rfl) (by kernel_rfl) (by kernel_rfl) (fun _ _ _ h => h) (Or.inl ⟨by rfl, ?_⟩) (by assumption) ?_
      rotate_left
      · intro wS hSw
        first
          | (go_simp; done)
          | (go_simp; with_reducible rfl)
      try simp only [Act.put, List.setIfInBounds_toArray, List.set_cons_zero, List.set_cons_succ]
      refine wpAnyH_take (i := 9) (oi := ({ dst := some 23, op := Op.binOp BinOp.add 3 (Operand.tmp 21) (Operand.tmp 22) 3, type := 3, pos := "patch.go:34", after := #[{ on := 7, ground := Ground.data }, { on := 8, ground := Ground.data }], guard := none } : Oper)) (v := ?_) rfl (by kernel_rfl) (by kernel_rfl) (by kernel_rfl) (fun _ _ _ h => h) (Or.inl ⟨by rfl, ?_⟩) (by assumption) ?_
      rotate_left
      · intro wS hSw
        first
          | (go_simp; done)
          | (go_simp; with_reducible rfl)
      try simp only [Act.put, List.setIfInBounds_toArray, List.set_cons_zero, List.set_cons_succ]
      refine wpAnyH_take (i := 10) (oi := ({ dst := some 24, op := Op.indexAddr 25 (Operand.tmp 20) (Operand.tmp 23), type := 0, pos := "patch.go:34", after := #[{ on := 6, ground := Ground.data }, { on := 9, ground := Ground.data }], guard := none } : Oper)) (v := ?_) rfl (by kernel_rfl) (by kernel_rfl) (by kernel_rfl) (fun _ _ _ h => h) (Or.inl ⟨by rfl, ?_⟩) (by assumption) ?_
      rotate_left
      · intro wS hSw
        first
          | (go_simp; done)
          | (go_simp; with_reducible rfl)
      try simp only [Act.put, List.setIfInBounds_toArray, List.set_cons_zero, List.set_cons_succ]
      refine wpAnyH_take (i := 11) (oi := ({ dst := some 25, op := Op.load 24 (Operand.tmp 24), type := 24, pos := "patch.go:34", after := #[{ on := 10, ground := Ground.data }], guard := none } : Oper)) (v := ?_) rfl (by kernel_rfl) (by kernel_rfl) (by kernel_rfl) (fun _ _ _ h => h) (Or.inl ⟨by rfl, ?_⟩) (by assumption) ?_
      rotate_left
      · intro wS hSw
        obtain ⟨hq1, hq2, hq3, hq4⟩ := hSw
        first
          | (go_simp; done)
          | (go_simp; with_reducible rfl)
      try simp only [Act.put, List.setIfInBounds_toArray, List.set_cons_zero, List.set_cons_succ]
      refine wpAnyH_take (i := 12) (oi := ({ dst := some 26, op := Op.convert 24 51 (Operand.tmp 25), type := 51, pos := "patch.go:34", after := #[{ on := 11, ground := Ground.data }], guard := none } : Oper)) (v := ?_) rfl (by kernel_rfl) (by kernel_rfl) (by kernel_rfl) (fun _ _ _ h => h) (Or.inl ⟨by rfl, ?_⟩) (by assumption) ?_
      rotate_left
      · intro wS hSw
        first
          | (go_simp; done)
          | (go_simp; with_reducible rfl)
      try simp only [Act.put, List.setIfInBounds_toArray, List.set_cons_zero, List.set_cons_succ]
      refine wpAnyH_take (i := 13) (oi := ({ dst := some 27, op := Op.fieldAddr 30 (Operand.tmp 3) 7, type := 0, pos := "patch.go:34", after := #[], guard := none } : Oper)) (v := ?_) rfl (by kernel_rfl) (by kernel_rfl) (by kernel_rfl) (fun _ _ _ h => h) (Or.inl ⟨by rfl, ?_⟩) (by assumption) ?_
      rotate_left
      · intro wS hSw
        first
          | (go_simp; done)
          | (go_simp; with_reducible rfl)
      try simp only [Act.put, List.setIfInBounds_toArray, List.set_cons_zero, List.set_cons_succ]
      refine wpAnyH_take (i := 14) (oi := ({ dst := some 28, op := Op.load 24 (Operand.tmp 27), type := 24, pos := "patch.go:34", after := #[{ on := 13, ground := Ground.data }], guard := none } : Oper)) (v := ?_) rfl (by kernel_rfl) (by kernel_rfl) (by kernel_rfl) (fun _ _ _ h => h) (Or.inl ⟨by rfl, ?_⟩) (by assumption) ?_
      rotate_left
      · intro wS hSw
        obtain ⟨hq1, hq2, hq3, hq4⟩ := hSw
        first
          | (go_simp; done)
          | (go_simp; with_reducible rfl)
      try simp only [Act.put, List.setIfInBounds_toArray, List.set_cons_zero, List.set_cons_succ]
      refine wpAnyH_take (i := 15) (oi := ({ dst := some 29, op := Op.convert 24 51 (Operand.tmp 28), type := 51, pos := "patch.go:34", after := #[{ on := 14, ground := Ground.data }], guard := none } : Oper)) (v := ?_) rfl (by kernel_rfl) (by kernel_rfl) (by kernel_rfl) (fun _ _ _ h => h) (Or.inl ⟨by rfl, ?_⟩) (by assumption) ?_
      rotate_left
      · intro wS hSw
        first
          | (go_simp; done)
          | (go_simp; with_reducible rfl)
      try simp only [Act.put, List.setIfInBounds_toArray, List.set_cons_zero, List.set_cons_succ]
      refine wpAnyH_take (i := 16) (oi := ({ dst := some 30, op := Op.binOp BinOp.sub 51 (Operand.tmp 26) (Operand.tmp 29) 51, type := 51, pos := "patch.go:34", after := #[{ on := 12, ground := Ground.data }, { on := 15, ground := Ground.data }], guard := none } : Oper)) (v := ?_) rfl (by kernel_rfl) (by kernel_rfl) (by kernel_rfl) (fun _ _ _ h => h) (Or.inl ⟨by rfl, ?_⟩) (by assumption) ?_
      rotate_left
      · intro wS hSw
        first
          | (go_simp; done)
          | (go_simp; with_reducible rfl)
      try simp only [Act.put, List.setIfInBounds_toArray, List.set_cons_zero, List.set_cons_succ]
      refine wpAnyH_take (i := 17) (oi := ({ dst := some 31, op := Op.indexAddr 31 (Operand.tmp 15) (Operand.tmp 18), type := 0, pos := "patch.go:34", after := #[{ on := 1, ground := Ground.data }, { on := 4, ground := Ground.data }, { on := 0, ground := Ground.phase }, { on := 1, ground := Ground.phase }, { on := 2, ground := Ground.phase }, { on := 3, ground := Ground.phase }, { on := 4, ground := Ground.phase }, { on := 5, ground := Ground.phase }, { on := 6, ground := Ground.phase }, { on := 7, ground := Ground.phase }, { on := 8, ground := Ground.phase }, { on := 9, ground := Ground.phase }, { on := 10, ground := Ground.phase }, { on := 11, ground := Ground.phase }, { on := 12, ground := Ground.phase }, { on := 13, ground := Ground.phase }, { on := 14, ground := Ground.phase }, { on := 15, ground := Ground.phase }, { on := 16, ground := Ground.phase }], guard := none } : Oper)) (v := ?_) rfl (by kernel_rfl) (by kernel_rfl) (by kernel_rfl) (fun _ _ _ h => h) (Or.inl ⟨by rfl, ?_⟩) (by assumption) ?_
      rotate_left
      · intro wS hSw
        first
          | (go_simp; done)
          | (go_simp; with_reducible rfl)
      try simp only [Act.put, List.setIfInBounds_toArray, List.set_cons_zero, List.set_cons_succ]
      refine wpAnyH_ready (rs := [18]) (by kernel_rfl) (by simp) ?_
      refine AllReadyH.cons (o := ({ dst := none, op := Op.store 51 (Operand.tmp 31) (Operand.tmp 30), type := 0, pos := "patch.go:34", after := #[{ on := 17, ground := Ground.data }, { on := 16, ground := Ground.data }, { on := 0, ground := Ground.phase }, { on := 1, ground := Ground.phase }, { on := 2, ground := Ground.phase }, { on := 3, ground := Ground.phase }, { on := 4, ground := Ground.phase }, { on := 5, ground := Ground.phase }, { on := 6, ground := Ground.phase }, { on := 7, ground := Ground.phase }, { on := 8, ground := Ground.phase }, { on := 9, ground := Ground.phase }, { on := 10, ground := Ground.phase }, { on := 11, ground := Ground.phase }, { on := 12, ground := Ground.phase }, { on := 13, ground := Ground.phase }, { on := 14, ground := Ground.phase }, { on := 15, ground := Ground.phase }, { on := 16, ground := Ground.phase }], guard := none } : Oper)) rfl (fun Kq hK => ?_) (AllReadyH.nil)
      go_simp
      refine hK.out _ _ ?_ (fun hHeld => ?_)
      · exact ⟨((World.cell?_setCell_far _ _ _ _ n3).trans hHeld.1), ((World.cell?_setCell_far _ _ _ _ n1).trans hHeld.2.1), ((World.cell?_setCell_far _ _ _ _ hbg).trans hHeld.2.2.1), ((World.cell?_setCell_far _ _ _ _ n2).trans hHeld.2.2.2)⟩
      clear hK Kq
      try simp only [Act.put, List.setIfInBounds_toArray, List.set_cons_zero, List.set_cons_succ]
      refine wpAnyH_done (by kernel_rfl) ?_ _
      have hgr : wr.grownBy (wr.drew.setCell ⟨gd, a1, none⟩ (.int .i16 (x - Z))) (some gd) := (Kit.grown_of_below (Below.refl _ _).drew (some gd)).trans (grown_set _ _ _ _)
      have HO4 := Lib.hid ((Kit.own_below HO.out (Below.refl wr.heap.size wr).drew).stored a1 (.int .i16 (x - Z))).1
      rw [I16v_set, HA1.out, listF_set F _ HFQ.out] at HO4
      have T1' := Lib.hid (BoxAt_grown T1.out hgr n1)
      have T2' := Lib.hid (NodeAt_grown T2.out hgr (NodeAt_size T2.out) n2)
      have T3' := Lib.hid (RowsAt_grown T3.out hgr n3)
      have HR' := Lib.hid (Rd_grown HR.out hgr hz6 hgB)
      have HG' := Lib.hid (HG.out.trans hgr)
      have hz7 := Nat.le_trans hz6 hgr.size
      clear hHeld T1 T2 T3 HO HR HG hgr hfr hcl
      rw [show a1 + 1 = at_ + (q + 1) by have := HA1.out; omega] at HO4
      go_wp2_with fail
      go_roundw
      case rel => exact ⟨q + 1, by omega, by go_num, T1', T2', T3', HO4, HR', HG', hz7⟩
      case measure => simp [intOf]; omega
    · obtain rfl : q = d := by omega
      go_wp2_with fail
      go_end0
      exact ⟨⟨_, rfl⟩, ⟨T1.out, T2.out, T3.out, by rw [Nat.add_mul, Nat.one_mul, HAT.out]; exact HO.out, HR.out, hz6⟩, HG.out⟩
end Go.Proofs.Ytbolneejjjjaeaa.CPatch
