/- Texts of this seat, one behind the other: PatchVisit, PoolSeq. -/
import Derived.RangeFuncBox
import Derived.RangeFuncLeaves
import Derived.RangeFuncCalls
import Derived.RangeFuncNested
import Derived.Shelf.Abstract
import Derived.WalkKit
import Derived.OwnWalkIn
import Derived.TacticsInMore
import Derived.LoopNIn
import Derived.LoopIn
import Derived.Test.YtoghpoopgkahiaaGreatDoorRows
import Derived.Test.YtoghpoopgkahiaaGreatDoorGA1
import Derived.Test.YtoghpoopgkahiaaGreatDoorGA7
import Derived.Test.YtoghpoopgkahiaaGreatDoorGA22
section
namespace Go.Proofs.YtoghpoopgkahiaaGreatDoor.CPatch
open Go Go.ChangeShapes Go.WideShapes Go.ChangeAt Go.RowKit
open Plain CSat CShape CTensor CConv
set_option linter.unusedVariables false
def I16v (zs : List Int) : List Value := zs.map (.int .i16)
def upto (F : Nat → Int) (m t : Nat) : Int := if t < m then F t else 0
def listF (F : Nat → Int) (N : Nat) : List Int := (List.range N).map F
theorem listF_len (F : Nat → Int) (N : Nat) : (listF F N).length = N := by simp [listF]
theorem listF_at (F : Nat → Int) {N i : Nat} (h : i < N) : (listF F N)[i]? = some (F i) := by simp [listF, h]
theorem listF_congr {F G : Nat → Int} {n : Nat} (h : ∀ i, i < n → F i = G i) : listF F n = listF G n := by
  apply List.ext_getElem?
  intro i
  by_cases hi : i < n
  · rw [listF_at F hi, listF_at G hi, h i hi]
  · rw [List.getElem?_eq_none (by rw [listF_len]; omega), List.getElem?_eq_none (by rw [listF_len]; omega)]
theorem listF_set (F : Nat → Int) {N m : Nat} (x : Int) (hx : F m = x) : (listF (upto F m) N).set m x = listF (upto F (m + 1)) N := by
  apply List.ext_getElem?
  intro i
  rw [List.getElem?_set]
  by_cases hi : i < N
  · by_cases e : m = i
    · subst e
      rw [if_pos rfl, if_pos (by rw [listF_len]; exact hi), listF_at _ hi]
      simp [upto, hx]
    · rw [if_neg e, listF_at _ hi, listF_at _ hi]
      simp only [upto]
      by_cases h1 : i < m
      · rw [if_pos h1, if_pos (by omega)]
      · rw [if_neg h1, if_neg (by omega)]
  · have e1 : (listF (upto F (m + 1)) N)[i]? = none := List.getElem?_eq_none (by rw [listF_len]; omega)
    have e2 : (listF (upto F m) N)[i]? = none := List.getElem?_eq_none (by rw [listF_len]; omega)
    rw [e1, e2]
    by_cases e : m = i
    · rw [if_pos e, if_neg (by rw [listF_len]; omega)]
    · rw [if_neg e]
theorem I16v_set (ys : List Int) (i : Nat) (x : Int) : (I16v ys).set i (.int .i16 x) = I16v (ys.set i x) := by simp [I16v, List.map_set]
/-- the box of rows. -/
def RowsAt (B : Nat) (M Wd : Int) (gd N : Nat) (w : World) : Prop :=
  w.cell? ⟨B, 0, none⟩ = some (.int .i64 M) ∧ w.cell? ⟨B, 1, none⟩ = some (.int .i64 Wd) ∧ w.cell? ⟨B, 2, none⟩ = some (.slice (some ⟨gd, 0, none⟩) N N)
theorem BoxAt_grown {B gd : Nat} {H W C : Int} {A : Option Addr} {n c : Nat} {w w' : World} (h : BoxAt B H W C A n c w) (hg : w.grownBy w' (some gd)) (hne : gd ≠ B) : BoxAt B H W C A n c w' := by
  have hB : B < w.heap.size := Kit.block_lt h.1
  exact ⟨(hg.cell_far ⟨B, 0, none⟩ hB (by simp; omega)).trans h.1, (hg.cell_far ⟨B, 1, none⟩ hB (by simp; omega)).trans h.2.1, (hg.cell_far ⟨B, 2, none⟩ hB (by simp; omega)).trans h.2.2.1, (hg.cell_far ⟨B, 3, none⟩ hB (by simp; omega)).trans h.2.2.2⟩
theorem RowsAt_grown {B gd N gr : Nat} {M Wd : Int} {w w' : World} (h : RowsAt B M Wd gd N w) (hg : w.grownBy w' (some gr)) (hne : gr ≠ B) : RowsAt B M Wd gd N w' := by
  have hB : B < w.heap.size := Kit.block_lt h.1
  exact ⟨(hg.cell_far ⟨B, 0, none⟩ hB (by simp; omega)).trans h.1, (hg.cell_far ⟨B, 1, none⟩ hB (by simp; omega)).trans h.2.1, (hg.cell_far ⟨B, 2, none⟩ hB (by simp; omega)).trans h.2.2⟩
theorem NodeAt_size {B : Nat} {x0 x1 x2 x8 x11 x12 x13 x14 x15 x16 x17 x18 : Value} {K S P O Z : Int} {WA BA : Option Addr} {nW cW nB cB : Nat} {w : World} (h : NodeAt B x0 x1 x2 x8 x11 x12 x13 x14 x15 x16 x17 x18 K S P O Z WA BA nW cW nB cB w) : B < w.heap.size := Kit.block_lt (h.at 0 _ rfl)
theorem Rd_grown {w w' : World} {B gd : Nat} {A : Option Addr} {xs : List Value} (h : Kit.Rd w B A xs) (hg : w.grownBy w' (some gd)) (hB : B ≤ w.heap.size) (hgd : B ≤ gd) : Kit.Rd w' B A xs :=
  h.keep fun p hp => hg.cell_far p (by omega) (by simp; omega)
theorem grown_set (w : World) (g o : Nat) (v : Value) : w.grownBy (w.setCell ⟨g, o, none⟩ v) (some g) := ⟨rfl, rfl, rfl, by simp, fun k _ hk => Below.heap_setCell _ _ _ k (fun e => hk (by rw [e]))⟩
/-- how it stands behind k places. -/
def OfAt (pt pn pr gd B0 : Nat) (H W C : Int) (A : Option Addr) (n c : Nat) (x0 x1 x2 x8 x11 x12 x13 x14 x15 x16 x17 x18 : Value) (K S P O Z : Int) (WA BA : Option Addr) (nW cW nB cB : Nat) (M Wd : Int) (N : Nat) (zs : List Int) (F : Nat → Int) (d k : Nat) (v : World) : Prop :=
  BoxAt pt H W C A n c v ∧ NodeAt pn x0 x1 x2 x8 x11 x12 x13 x14 x15 x16 x17 x18 K S P O Z WA BA nW cW nB cB v ∧ RowsAt pr M Wd gd N v ∧ v.ownsRow B0 158 1 (.slice (some ⟨gd, 0, none⟩) N N) N (I16v (listF (upto F (k * d)) N)) ∧ Kit.Rd v B0 A (I8s zs) ∧ B0 ≤ v.heap.size
theorem OfAt.stay {pt pn pr gd B0 : Nat} {H W C : Int} {A : Option Addr} {n c : Nat} {x0 x1 x2 x8 x11 x12 x13 x14 x15 x16 x17 x18 : Value} {K S P O Z : Int} {WA BA : Option Addr} {nW cW nB cB : Nat} {M Wd : Int} {N : Nat} {zs : List Int} {F : Nat → Int} {d k : Nat} {v v' : World}
    (h : OfAt pt pn pr gd B0 H W C A n c x0 x1 x2 x8 x11 x12 x13 x14 x15 x16 x17 x18 K S P O Z WA BA nW cW nB cB M Wd N zs F d k v) (hb : Below v.heap.size v v') : OfAt pt pn pr gd B0 H W C A n c x0 x1 x2 x8 x11 x12 x13 x14 x15 x16 x17 x18 K S P O Z WA BA nW cW nB cB M Wd N zs F d k v' := by
  obtain ⟨h1, h2, h3, h4, h5, h6⟩ := h
  have z3 : pr < v.heap.size := Kit.block_lt h3.1
  exact ⟨h1.below (B' := v.heap.size) (Kit.block_lt h1.1) hb, h2.below (B' := v.heap.size) (NodeAt_size h2) hb,
    ⟨(hb.cell (p := ⟨pr, 0, none⟩) z3).trans h3.1, (hb.cell (p := ⟨pr, 1, none⟩) z3).trans h3.2.1, (hb.cell (p := ⟨pr, 2, none⟩) z3).trans h3.2.2⟩, Kit.own_below h4 hb, h5.below (hb.mono h6), Nat.le_trans h6 hb.size⟩
set_option maxRecDepth 100000 in
set_option maxHeartbeats 4000000 in
theorem visit_of (pt pn pr gd B0 : Nat) (n1 : gd ≠ pt) (n2 : gd ≠ pn) (n3 : gd ≠ pr) (hgB : B0 ≤ gd) (H W C : Int) (bz oz n c : Nat) (x0 x1 x2 x8 x11 x12 x13 x14 x15 x16 x17 x18 : Value) (K S P O Z : Int) (WA BA : Option Addr) (nW cW nB cB : Nat) (M Wd : Int) (N : Nat) (zs : List Int) (F : Nat → Int) (d k at_ pos : Nat) (hd : C = (d : Int)) (hn : zs.length = n) (hz : I8b zs) (z1 : -128 ≤ Z) (z2 : Z ≤ 127)
    (hat : k * d = at_) (hN : at_ + d ≤ N) (hN1 : N ≤ 30000000) (hpos : pos + d ≤ n) (hn1 : n ≤ 1024) (hF : ∀ q, q < d → F (at_ + q) = zs.getD (pos + q) 0 - Z) (v : World) (hI : OfAt pt pn pr gd B0 H W C (some ⟨bz, oz, none⟩) n c x0 x1 x2 x8 x11 x12 x13 x14 x15 x16 x17 x18 K S P O Z WA BA nW cW nB cB M Wd N zs F d k v) :
    Calls Tryz.prog 126 #[.int .i64 (at_ : Int), .int .i64 (pos : Int), .pointer (some ⟨pt, 0, none⟩), .pointer (some ⟨pn, 0, none⟩), .pointer (some ⟨pr, 0, none⟩)] v fun e v' => (∃ u, e = .returned u) ∧ OfAt pt pn pr gd B0 H W C (some ⟨bz, oz, none⟩) n c x0 x1 x2 x8 x11 x12 x13 x14 x15 x16 x17 x18 K S P O Z WA BA nW cW nB cB M Wd N zs F d (k + 1) v' ∧ v.grownBy v' (some gd) := by
  obtain ⟨h1, h2, h3, h4, h5, h6⟩ := hI
  have T1 := Lib.hid h1
  have T2 := Lib.hid h2
  have T3 := Lib.hid h3
  rw [hat] at h4
  have HO := Lib.hid h4
  have HR := Lib.hid h5
  have HG : Hid (v.grownBy v (some gd)) := Lib.hid (World.grownBy.refl v _)
  have HAT := Lib.hid hat
  have HF := Lib.hid hF
  have HZ := Lib.hid hz
  have HN := Lib.hid hn
  have hz6 := h6
  subst hd
  obtain ⟨tb0, tb1, tb2, tb3⟩ := T1.out
  clear h1 h2 h3 h4 h5 h6 hat hF hz hn
  go_enter Tryz.func126, Tryz.ntmps126
  go_wp2_with fail
  clear tb0 tb1 tb2 tb3
  go_loopw [11] (fun u wr => ∃ q : Nat, q ≤ d ∧ u = .int .i64 q ∧ Hid (BoxAt pt H W (d : Int) (some ⟨bz, oz, none⟩) n c wr) ∧ Hid (NodeAt pn x0 x1 x2 x8 x11 x12 x13 x14 x15 x16 x17 x18 K S P O Z WA BA nW cW nB cB wr) ∧ Hid (RowsAt pr M Wd gd N wr) ∧ Hid (wr.ownsRow B0 158 1 (.slice (some ⟨gd, 0, none⟩) N N) N (I16v (listF (upto F (at_ + q)) N))) ∧ Hid (Kit.Rd wr B0 (some ⟨bz, oz, none⟩) (I8s zs)) ∧ Hid (v.grownBy wr (some gd)) ∧ B0 ≤ wr.heap.size) (fun u _ => d - (intOf u).toNat)
  case atStart => exact ⟨0, Nat.zero_le _, rfl, T1, T2, T3, HO, HR, HG, hz6⟩
  case round =>
    clear T1 T2 T3 HO HR HG hz6
    obtain ⟨q, hq, rfl, T1, T2, T3, HO, HR, HG, hz6⟩ := hrel
    by_cases hlt : q < d
    · have hqI : (q : Int) < (d : Int) := by omega
      obtain ⟨tb0, tb1, tb2, tb3⟩ := T1.out
      obtain ⟨tr0, tr1, tr2⟩ := T3.out
      have n7 := T2.out.at 7 _ rfl
      obtain ⟨a1, ha1⟩ : ∃ a1, at_ + q = a1 := ⟨_, rfl⟩
      obtain ⟨p1, hp1⟩ : ∃ p1, pos + q = p1 := ⟨_, rfl⟩
      have f1 : IntKind.i64.wrap ((at_ : Int) + (q : Int)) = (a1 : Int) := by rw [IntWalk.i64_in _ (by omega)]; omega
      have f2 : IntKind.i64.wrap ((pos : Int) + (q : Int)) = (p1 : Int) := by rw [IntWalk.i64_in _ (by omega)]; omega
      have s1 : (0 : Int) ≤ (a1 : Int) := by omega
      have s2 : (a1 : Int) < (N : Int) := by omega
      have s3 : (0 : Int) ≤ (p1 : Int) := by omega
      have s4 : (p1 : Int) < (n : Int) := by omega
      obtain ⟨b', o', hbo, hbz, hcz⟩ := ints_getD HR.out (j := 0) (by have := HN.out; omega)
      cases hbo
      have hcx := hcz p1 (by have := HN.out; omega)
      have hFq := HF.out q hlt
      rw [ha1, hp1] at hFq
      obtain ⟨x1, x2⟩ := HZ.out p1
      generalize zs.getD p1 0 = x at hcx hFq x1 x2
      have k1 : IntKind.i16.wrap x = x := IntWalk.i16_in _ (by omega)
      have k2 : IntKind.i16.wrap Z = Z := IntWalk.i16_in _ (by omega)
      have k3 : IntKind.i16.wrap (x - Z) = x - Z := IntWalk.i16_in _ (by omega)
      have hfr : wr.frozen? ⟨gd, a1, none⟩ = false := HO.out.frozenAt a1
      have hcl : ∃ u, wr.cell? ⟨gd, a1, none⟩ = some u := ⟨_, (HO.out.cellAt a1 (by omega)).trans (List.getElem?_eq_getElem (by simp [I16v, listF]; omega))⟩
      obtain ⟨vold, hcl⟩ := hcl
      have hbg : gd ≠ bz := by omega
      have HFQ := Lib.hid hFq
      have HA1 := Lib.hid ha1
      clear hcz hFq ha1 hp1
      go_wp2_with fail
      refine wp_region_held_drew (S := fun w' => w'.cell? ⟨pr, 2, none⟩ = some (.slice (some ⟨gd, 0, none⟩) N N) ∧ w'.cell? ⟨pt, 3, none⟩ = some (.slice (some ⟨bz, oz, none⟩) n c) ∧ w'.cell? ⟨bz, oz + p1, none⟩ = some (.int .i8 x) ∧ w'.cell? ⟨pn, 7, none⟩ = some (.int .i8 Z)) (by kernel_rfl) ⟨tr2, tb3, hcx, n7⟩ (fun hHeld => ?_)
      clear tb0 tb1 tb2 tb3 tr0 tr1 tr2 n7 hcx
      refine Tk.x 0 rfl ?_
      try simp only [Tk.put]
      refine Tk.y 1 (v := ?_) rfl ?_ ?_
      rotate_left
      · intro wS hSw
        obtain ⟨hq1, hq2, hq3, hq4⟩ := hSw
        first | (go_simp; done) | (go_simp; with_reducible rfl)
      try simp only [Tk.put]
      refine Tk.x 2 rfl ?_
      try simp only [Tk.put]
      refine Tk.x 3 rfl ?_
      try simp only [Tk.put]
      refine Tk.x 4 rfl ?_
      try simp only [Tk.put]
      refine Tk.x 5 rfl ?_
      try simp only [Tk.put]
      refine Tk.y 6 (v := ?_) rfl ?_ ?_
      rotate_left
      · intro wS hSw
        obtain ⟨hq1, hq2, hq3, hq4⟩ := hSw
        first | (go_simp; done) | (go_simp; with_reducible rfl)
      try simp only [Tk.put]
      refine Tk.x 7 rfl ?_
      try simp only [Tk.put]
      refine Tk.x 8 rfl ?_
      try simp only [Tk.put]
      refine Tk.x 9 rfl ?_
      try simp only [Tk.put]
      refine Tk.x 10 rfl ?_
      try simp only [Tk.put]
      refine Tk.y 11 (v := ?_) rfl ?_ ?_
      rotate_left
      · intro wS hSw
        obtain ⟨hq1, hq2, hq3, hq4⟩ := hSw
        first | (go_simp; done) | (go_simp; with_reducible rfl)
      try simp only [Tk.put]
      refine Tk.x 12 rfl ?_
      try simp only [Tk.put]
      refine Tk.x 13 rfl ?_
      try simp only [Tk.put]
      refine Tk.y 14 (v := ?_) rfl ?_ ?_
      rotate_left
      · intro wS hSw
        obtain ⟨hq1, hq2, hq3, hq4⟩ := hSw
        first | (go_simp; done) | (go_simp; with_reducible rfl)
      try simp only [Tk.put]
      refine Tk.x 15 rfl ?_
      try simp only [Tk.put]
      refine Tk.x 16 rfl ?_
      try simp only [Tk.put]
      refine Tk.x 17 rfl ?_
      try simp only [Tk.put]
      refine Tk.s 18 rfl (fun Kq hK => ?_)
      go_simp
      refine hK.out _ _ ?_ (fun hHeld => ?_)
      · exact ⟨((World.cell?_setCell_far _ _ _ _ n3).trans hHeld.1), ((World.cell?_setCell_far _ _ _ _ n1).trans hHeld.2.1), ((World.cell?_setCell_far _ _ _ _ hbg).trans hHeld.2.2.1), ((World.cell?_setCell_far _ _ _ _ n2).trans hHeld.2.2.2)⟩
      clear hK Kq
      try simp only [Tk.put]
      refine wpAnyH_done (by kernel_rfl) ?_ _
      have hgr : wr.grownBy (wr.drew.setCell ⟨gd, a1, none⟩ (.int .i16 (x - Z))) (some gd) := (Kit.grown_of_below (Below.refl _ _).drew (some gd)).trans (grown_set _ _ _ _)
      have HO4 := Lib.hid ((Kit.own_below HO.out (Below.refl wr.heap.size wr).drew).stored a1 (.int .i16 (x - Z))).1
      rw [I16v_set, HA1.out, listF_set F _ HFQ.out] at HO4
      have T1' := Lib.hid (BoxAt_grown T1.out hgr n1)
      have T2' := Lib.hid (NodeAt_grown T2.out hgr (NodeAt_size T2.out) n2)
      have T3' := Lib.hid (RowsAt_grown T3.out hgr n3)
      have HR' := Lib.hid (Rd_grown HR.out hgr hz6 hgB)
      have HG' := Lib.hid (HG.out.trans hgr)
      have hz7 := Nat.le_trans hz6 hgr.size
      clear hHeld T1 T2 T3 HO HR HG hgr hfr hcl
      rw [show a1 + 1 = at_ + (q + 1) by have := HA1.out; omega] at HO4
      go_wp2_with fail
      go_roundw
      case rel => exact ⟨q + 1, by omega, by go_num, T1', T2', T3', HO4, HR', HG', hz7⟩
      case measure => simp [intOf]; omega
    · obtain rfl : q = d := by omega
      go_wp2_with fail
      go_end0
      exact ⟨⟨_, rfl⟩, ⟨T1.out, T2.out, T3.out, by rw [Nat.add_mul, Nat.one_mul, HAT.out]; exact HO.out, HR.out, hz6⟩, HG.out⟩
end Go.Proofs.YtoghpoopgkahiaaGreatDoor.CPatch
end
section
namespace Go.Proofs.YtoghpoopgkahiaaGreatDoor.CPool
open Go Go.ChangeShapes Go.WideShapes Go.ChangeAt Go.RowKit Go.Shelf
open Plain CSat CShape CTensor CConv
set_option linter.unusedVariables false
attribute [local go_sem] Oper.semAt_some
/-- the places of the numbers that a window has of a channel. -/
def hereI (H W C top left : Int) (o i j : Nat) : List Nat :=
  if 0 ≤ top + (i : Int) ∧ top + (i : Int) < H ∧ 0 ≤ left + (j : Int) ∧ left + (j : Int) < W then [(((top + (i : Int)) * W + (left + (j : Int))) * C + (o : Int)).toNat] else []
def colI (H W C top left : Int) (o i : Nat) : Nat → List Nat
  | 0 => []
  | j + 1 => colI H W C top left o i j ++ hereI H W C top left o i j
def rowsI (H W C top left : Int) (kk o : Nat) : Nat → List Nat
  | 0 => []
  | i + 1 => rowsI H W C top left kk o i ++ colI H W C top left o i kk
theorem hereI_L (zs : List Int) (H W C top left : Int) (o i j : Nat) : hereL zs H W C top left o i j = (hereI H W C top left o i j).map (fun k => zs.getD k 0) := by
  unfold hereL hereI; split <;> rfl
theorem colI_L (zs : List Int) (H W C top left : Int) (o i : Nat) : ∀ j, colL zs H W C top left o i j = (colI H W C top left o i j).map (fun k => zs.getD k 0)
  | 0 => rfl
  | j + 1 => by
    show colL zs H W C top left o i j ++ hereL zs H W C top left o i j = (colI H W C top left o i j ++ hereI H W C top left o i j).map _
    rw [List.map_append, colI_L zs H W C top left o i j, hereI_L]
theorem rowsI_L (zs : List Int) (H W C top left : Int) (kk o : Nat) : ∀ i, rowsL zs H W C top left kk o i = (rowsI H W C top left kk o i).map (fun k => zs.getD k 0)
  | 0 => rfl
  | i + 1 => by
    show rowsL zs H W C top left kk o i ++ colL zs H W C top left o i kk = (rowsI H W C top left kk o i ++ colI H W C top left o i kk).map _
    rw [List.map_append, rowsI_L zs H W C top left kk o i, colI_L]
theorem hereI_len (H W C top left : Int) (o i j : Nat) : (hereI H W C top left o i j).length ≤ 1 := by unfold hereI; split <;> simp
theorem colI_len (H W C top left : Int) (o i : Nat) : ∀ j, (colI H W C top left o i j).length ≤ j
  | 0 => Nat.le_refl _
  | j + 1 => by
    show (colI H W C top left o i j ++ hereI H W C top left o i j).length ≤ j + 1
    rw [List.length_append]
    have := colI_len H W C top left o i j
    have := hereI_len H W C top left o i j
    omega
theorem rowsI_len (H W C top left : Int) (kk o : Nat) : ∀ i, (rowsI H W C top left kk o i).length ≤ i * kk
  | 0 => by simp [rowsI]
  | i + 1 => by
    show (rowsI H W C top left kk o i ++ colI H W C top left o i kk).length ≤ (i + 1) * kk
    rw [List.length_append, Nat.add_mul, Nat.one_mul]
    have := rowsI_len H W C top left kk o i
    have := colI_len H W C top left o i kk
    omega
/-- what a window's function has captured. -/
def CapAt (g : Nat) (H W C : Int) (A : Option Addr) (N c : Nat) (side top left ch : Int) (wd : World) : Prop :=
  BoxAt g H W C A N c wd ∧ wd.cell? ⟨g + 1, 0, none⟩ = some (.int .i64 side) ∧ wd.cell? ⟨g + 2, 0, none⟩ = some (.int .i64 top) ∧ wd.cell? ⟨g + 3, 0, none⟩ = some (.int .i64 left) ∧ wd.cell? ⟨g + 4, 0, none⟩ = some (.int .i64 ch)
theorem CapAt.below {g n₀ : Nat} {H W C : Int} {A : Option Addr} {N c : Nat} {side top left ch : Int} {w w' : World} (h : CapAt g H W C A N c side top left ch w) (hg : g + 4 < n₀) (hb : Below n₀ w w') : CapAt g H W C A N c side top left ch w' :=
  ⟨h.1.below (by omega) hb, (hb.cell (p := ⟨g + 1, 0, none⟩) (show g + 1 < n₀ by omega)).trans h.2.1, (hb.cell (p := ⟨g + 2, 0, none⟩) (show g + 2 < n₀ by omega)).trans h.2.2.1, (hb.cell (p := ⟨g + 3, 0, none⟩) (show g + 3 < n₀ by omega)).trans h.2.2.2.1, (hb.cell (p := ⟨g + 4, 0, none⟩) hg).trans h.2.2.2.2⟩
theorem pwin_to (H W C : Int) (A : Option Addr) (N c : Nat) (side top left ch : Int) (w : World) :
    Calls Tryz.prog 103 #[.agg #[.int .i64 H, .int .i64 W, .int .i64 C, .slice A N c], .int .i64 side, .int .i64 top, .int .i64 left, .int .i64 ch] w fun e w' => e = .returned (.func (.func 138) #[] #[.pointer (some ⟨w.heap.size + 1, 0, none⟩), .pointer (some ⟨w.heap.size, 0, none⟩), .pointer (some ⟨w.heap.size + 2, 0, none⟩), .pointer (some ⟨w.heap.size + 3, 0, none⟩), .pointer (some ⟨w.heap.size + 4, 0, none⟩)]) ∧ CapAt w.heap.size H W C A N c side top left ch w' ∧ Below w.heap.size w w' ∧ w'.heap.size = w.heap.size + 5 := by
  go_enter Tryz.func103, Tryz.ntmps103
  go_wp2_with fail
  go_ret
  have hb : Below w.heap.size w (((((w.alloc (.cells #[.int .i64 H, .int .i64 W, .int .i64 C, .slice A N c] 32)).alloc (.cells #[.int .i64 side] 3)).alloc (.cells #[.int .i64 top] 3)).alloc (.cells #[.int .i64 left] 3)).alloc (.cells #[.int .i64 ch] 3)) := by
    refine Below.alloc (Below.alloc (Below.alloc (Below.alloc (Below.alloc (Below.refl _ _) (Nat.le_refl _) _) ?_ _) ?_ _) ?_ _) ?_ _
    all_goals (simp; try omega)
  refine ⟨rfl, ⟨?_, ?_, ?_, ?_, ?_⟩, hb, by simp⟩
  · refine (boxNew H W C A N c 32 w).below (B' := w.heap.size + 1) (by omega) ?_
    refine Below.alloc (Below.alloc (Below.alloc (Below.alloc (Below.refl _ _) ?_ _) ?_ _) ?_ _) ?_ _
    all_goals (simp; try omega)
  · have h := Kit.new_cell (w.alloc (.cells #[.int .i64 H, .int .i64 W, .int .i64 C, .slice A N c] 32)) #[.int .i64 side] 3 0
    simp only [World.size_alloc] at h
    rw [World.cell?_alloc_lt _ _ _ (by first | (simp; done) | (simp; omega)), World.cell?_alloc_lt _ _ _ (by first | (simp; done) | (simp; omega)), World.cell?_alloc_lt _ _ _ (by simp)]
    exact h
  · have h := Kit.new_cell ((w.alloc (.cells #[.int .i64 H, .int .i64 W, .int .i64 C, .slice A N c] 32)).alloc (.cells #[.int .i64 side] 3)) #[.int .i64 top] 3 0
    simp only [World.size_alloc] at h
    rw [World.cell?_alloc_lt _ _ _ (by first | (simp; done) | (simp; omega)), World.cell?_alloc_lt _ _ _ (by simp)]
    exact h
  · have h := Kit.new_cell (((w.alloc (.cells #[.int .i64 H, .int .i64 W, .int .i64 C, .slice A N c] 32)).alloc (.cells #[.int .i64 side] 3)).alloc (.cells #[.int .i64 top] 3)) #[.int .i64 left] 3 0
    simp only [World.size_alloc] at h
    rw [World.cell?_alloc_lt _ _ _ (by simp)]
    exact h
  · have h := Kit.new_cell ((((w.alloc (.cells #[.int .i64 H, .int .i64 W, .int .i64 C, .slice A N c] 32)).alloc (.cells #[.int .i64 side] 3)).alloc (.cells #[.int .i64 top] 3)).alloc (.cells #[.int .i64 left] 3)) #[.int .i64 ch] 3 0
    simp only [World.size_alloc] at h
    exact h
set_option maxRecDepth 100000 in
set_option maxHeartbeats 4000000 in
theorem pwin_in (n : Nat) (hn : 1 ≤ n) (l g n₀ b off : Nat) (H W C : Int) (N c kk o d : Nat) (top left : Int) (G : Nat → Int) (ht : tensB H W C N = true) (hd : C = (d : Int)) (ho : o < d) (hk7 : kk ≤ 7)
    (t1 : -1000 ≤ top) (t2 : top ≤ 1000) (l1 : -1000 ≤ left) (l2 : left ≤ 1000) (hg : g + 4 < n₀) (hb : b < n₀) (J Jx : List Nat → World → Prop) (hJ : ∀ pre W W', J pre W → Below W.heap.size W W' → J pre W')
    (hY : ∀ pre x W, J pre W → pre.length < 64 → YieldAt Fence.wide (n - 1) Tryz.prog l #[.int .i8 (G x)] W fun e W' =>
      (e = .returned (.bool true) ∧ J (pre ++ [x]) W' ∧ Below n₀ W W') ∨ (e = .returned (.bool false) ∧ Jx (pre ++ [x]) W'))
    (w0 : World) (hn₀ : n₀ ≤ w0.heap.size) (hcap : CapAt g H W C (some ⟨b, off, none⟩) N c (kk : Int) top left (o : Int) w0)
    (hc : ∀ j, j < N → w0.cell? ⟨b, off + j, none⟩ = some (.int .i8 (G j))) (h0 : J [] w0) :
    CallsIn Fence.wide n Tryz.prog 138 (#[.func (.yield l) #[] #[]] ++ #[.pointer (some ⟨g + 1, 0, none⟩), .pointer (some ⟨g, 0, none⟩), .pointer (some ⟨g + 2, 0, none⟩), .pointer (some ⟨g + 3, 0, none⟩), .pointer (some ⟨g + 4, 0, none⟩)]) w0 fun e W' => (∃ v, e = .returned v) ∧
      ((∃ ls, ls = rowsI H W C top left kk o kk ∧ J ls W') ∨ (∃ pre, Jx pre W')) := by
  have hs : shapeB H W C = true := by simp only [tensB, Bool.and_eq_true] at ht; exact ht.1
  have hN : (N : Int) = H * W * C := by have := ht; unfold tensB at this; simp at this; exact this.2
  obtain ⟨g1, g2, g3, g4, g5, g6, g7⟩ := shapeB_yes hs
  refine callsIn_of_wp Tryz.func138 rfl trivial ?_ rfl
  simp only [Tryz.ntmps138, List.size_toArray, List.length_cons, List.length_nil, Nat.reduceAdd, Nat.reduceSub, Array.replicate_succ, Array.replicate_zero, List.push_toArray, List.append_toArray, List.nil_append, List.cons_append]
  have hwide : ∀ f, Fence.wide.fn f := fun _ => trivial
  have HY := Lib.hid hY
  have HC := Lib.hid hc
  have HJ := Lib.hid hJ
  have HCAP := Lib.hid hcap
  have HS := Lib.hid hs
  have HN := Lib.hid hN
  have HD := Lib.hid hd
  have c1 := hcap.2.1
  clear hY hc hJ hcap hs hN hd ht g7
  gi_wp2
  gi_loopw [12] (fun u wr => ∃ i : Nat, i ≤ kk ∧ u = .int .i64 i ∧ Hid (J (rowsI H W C top left kk o i) wr) ∧ Hid (Below n₀ w0 wr) ∧ n₀ ≤ wr.heap.size)
    (fun u _ => kk - (intOf u).toNat)
  case atStart => exact ⟨0, Nat.zero_le _, rfl, Lib.hid h0, Lib.hid (Below.refl _ _), hn₀⟩
  case round =>
    obtain ⟨i, hi, rfl, hJs, hB, hz⟩ := hrel
    clear c1
    by_cases hlt : i < kk
    · have hiI : (i : Int) < (kk : Int) := by omega
      have c1 := (HCAP.out.below hg hB.out).2.1
      have hJ0 : Hid (J (rowsI H W C top left kk o i ++ colI H W C top left o i 0) wr) := Lib.hid (by simpa [colI] using hJs.out)
      clear hJs
      gi_wp2
      gi_loopw [16] (fun u wr => ∃ j : Nat, j ≤ kk ∧ u = .int .i64 j ∧ Hid (J (rowsI H W C top left kk o i ++ colI H W C top left o i j) wr) ∧ Hid (Below n₀ w0 wr) ∧ n₀ ≤ wr.heap.size)
        (fun u _ => kk - (intOf u).toNat)
      case atStart => exact ⟨0, Nat.zero_le _, rfl, hJ0, hB, hz⟩
      case round =>
        clear hJ0 hB hz c1
        obtain ⟨j, hj, rfl, hJs, hB, hz⟩ := hrel
        by_cases hltj : j < kk
        · have hjI : (j : Int) < (kk : Int) := by omega
          obtain ⟨⟨k0, k1, k2, k3⟩, c1, c2, c3, c4⟩ := HCAP.out.below hg hB.out
          obtain ⟨yv, hyv⟩ : ∃ yv, top + (i : Int) = yv := ⟨_, rfl⟩
          obtain ⟨xv, hxv⟩ : ∃ xv, left + (j : Int) = xv := ⟨_, rfl⟩
          have e1 : IntKind.i64.wrap (top + (i : Int)) = yv := by rw [IntWalk.i64_in _ (by omega), hyv]
          have e2 : IntKind.i64.wrap (left + (j : Int)) = xv := by rw [IntWalk.i64_in _ (by omega), hxv]
          have hlen : (rowsI H W C top left kk o i ++ colI H W C top left o i j).length < 64 := by
            have q1 := rowsI_len H W C top left kk o i
            have q2 := colI_len H W C top left o i j
            have q3 : i * kk ≤ 49 := Nat.le_trans (Nat.mul_le_mul (show i ≤ 7 by omega) hk7) (by omega)
            rw [List.length_append]; omega
          have hnx : rowsI H W C top left kk o i ++ colI H W C top left o i (j + 1) = (rowsI H W C top left kk o i ++ colI H W C top left o i j) ++ hereI H W C top left o i j := by
            rw [List.append_assoc]; rfl
          obtain ⟨L1, hL1⟩ : ∃ L1, rowsI H W C top left kk o i ++ colI H W C top left o i j = L1 := ⟨_, rfl⟩
          rw [hL1] at hJs hlen hnx
          have hCd := HD.out
          by_cases hin : 0 ≤ yv ∧ yv < H ∧ 0 ≤ xv ∧ xv < W
          · obtain ⟨hy0, hyH, hx0, hxW⟩ := hin
            have hins : inB H W C yv xv (o : Int) = true := by unfold inB; rw [HS.out]; simp; omega
            obtain ⟨pos, hpos⟩ : ∃ pos, (yv * W + xv) * C + (o : Int) = pos := ⟨_, rfl⟩
            obtain ⟨p1, p2, p3, p4, p5⟩ := at_bd (c := (o : Int)) HS.out hy0 hyH hx0 hxW (by omega) (by omega)
            have hp0 : 0 ≤ pos := by omega
            obtain ⟨ix, hix⟩ : ∃ ix : Nat, pos = (ix : Int) := ⟨pos.toNat, by omega⟩
            have hixN : ix < N := by have := HN.out; omega
            have hhere : hereI H W C top left o i j = [ix] := by
              unfold hereI; rw [hyv, hxv, if_pos ⟨hy0, hyH, hx0, hxW⟩, hpos, hix]; simp
            have HIX : Hid (indexZ H W C yv xv (o : Int) 0 = (ix : Int)) := Lib.hid (by rw [indexZ_yes hins, hpos, hix])
            have HINS := Lib.hid hins
            have HNX : Hid (rowsI H W C top left kk o i ++ colI H W C top left o i (j + 1) = L1 ++ [ix]) := Lib.hid (by rw [hnx, hhere])
            have hixI : (ix : Int) < (N : Int) := by omega
            have hix0 : (0 : Int) ≤ (ix : Int) := by omega
            clear hnx hhere hyv hxv hins hpos p1 p2 p3 p4 p5 hp0 hix hCd
            gi_wp2_with (gi_at_call 133; (refine ((callsIn_wide (n := n - 1)).2 (index_to H W C yv xv (o : Int) (ix : Int) true HINS.out HIX.out _)).mono ?_); (rintro e w2 ⟨rfl, hb2⟩; have hJ2 := HJ.out _ _ _ hJs.out hb2; have hB2 := hB.out.trans (hb2.mono hz); obtain ⟨⟨_, _, _, k3⟩, _, _, _, _⟩ := HCAP.out.below hg hB2; have hcx := (hB2.cell (p := ⟨b, off + ix, none⟩) hb).trans (HC.out ix hixN); have hz2 := Nat.le_trans hz hb2.size; obtain ⟨fn, tmps, assign, body, hy, hR⟩ := HY.out _ ix w2 hJ2 hlen; generalize G ix = x at hcx hR hy))
            refine hR.mono ?_
            rintro e W3 (⟨rfl, hJ3, hk3⟩ | ⟨rfl, hJx3⟩)
            · have HJ3 : Hid (J (rowsI H W C top left kk o i ++ colI H W C top left o i (j + 1)) W3) := Lib.hid (by rw [HNX.out]; exact hJ3)
              have HB3 := Lib.hid (hB2.trans hk3)
              have hz3 := Nat.le_trans hz2 hk3.size
              clear hJ3 hk3 hcx hy hR
              gi_wp2
              go_roundw
              case rel => exact ⟨j + 1, by omega, by simp, HJ3, HB3, hz3⟩
              case measure => simp [intOf]; omega
            · gi_wp2
              refine bodyPost_ret (results_none rfl _ _ _) rfl ?_
              exact ⟨⟨_, rfl⟩, .inr ⟨_, hJx3⟩⟩
          · have hins : inB H W C yv xv (o : Int) = false := by unfold inB; rw [HS.out]; simp; omega
            have hhere : hereI H W C top left o i j = [] := by unfold hereI; rw [hyv, hxv, if_neg hin]
            have HIX : Hid (indexZ H W C yv xv (o : Int) 0 = 0) := Lib.hid (indexZ_no hins)
            have HINS := Lib.hid hins
            have HNX : Hid (rowsI H W C top left kk o i ++ colI H W C top left o i (j + 1) = L1) := Lib.hid (by rw [hnx, hhere, List.append_nil])
            clear hnx hhere hyv hxv hins hin hCd
            gi_wp2_with (gi_at_call 133; (refine ((callsIn_wide (n := n - 1)).2 (index_to H W C yv xv (o : Int) 0 false HINS.out HIX.out _)).mono ?_); (rintro e w2 ⟨rfl, hb2⟩; have hJ2 := HJ.out _ _ _ hJs.out hb2; have hB2 := hB.out.trans (hb2.mono hz); have hz2 := Nat.le_trans hz hb2.size))
            go_roundw
            case rel => exact ⟨j + 1, by omega, by simp, Lib.hid (by rw [HNX.out]; exact hJ2), Lib.hid hB2, hz2⟩
            case measure => simp [intOf]; omega
        · obtain rfl : j = kk := by omega
          gi_wp2
          go_roundw
          case rel => exact ⟨i + 1, by omega, by simp, hJs, hB, hz⟩
          case measure => simp [intOf]; omega
    · obtain rfl : i = kk := by omega
      gi_wp2
      go_end0
      exact ⟨⟨_, rfl⟩, .inl ⟨_, rfl, hJs.out⟩⟩
theorem abides_below {β : Type} {B : Nat} {J : β → World → Prop} (h : AbidesFrom B J) (s : β) (W W' : World) (hs : J s W) (hb : Below W.heap.size W W') : J s W' :=
  h s W W' none hs (Kit.grown_of_below hb none) (fun r e => by cases e)
theorem seq_window (n : Nat) (hn : 1 ≤ n) (g n₀ b off : Nat) (H W C : Int) (N c kk o d : Nat) (top left : Int) (G : Nat → Int) (ht : tensB H W C N = true) (hd : C = (d : Int)) (ho : o < d) (hk7 : kk ≤ 7)
    (t1 : -1000 ≤ top) (t2 : top ≤ 1000) (l1 : -1000 ≤ left) (l2 : left ≤ 1000) (hg : g + 4 < n₀) (hb : b < n₀) (w : World) (hn₀ : n₀ ≤ w.heap.size) (hcap : CapAt g H W C (some ⟨b, off, none⟩) N c (kk : Int) top left (o : Int) w)
    (hc : ∀ j, j < N → w.cell? ⟨b, off + j, none⟩ = some (.int .i8 (G j))) :
    SeqStopsK Fence.wide n Tryz.prog 138 #[.pointer (some ⟨g + 1, 0, none⟩), .pointer (some ⟨g, 0, none⟩), .pointer (some ⟨g + 2, 0, none⟩), .pointer (some ⟨g + 3, 0, none⟩), .pointer (some ⟨g + 4, 0, none⟩)] (fun x : Nat => #[Value.int .i8 (G x)]) (Below n₀) (fun ls => ls = rowsI H W C top left kk o kk) (fun _ => True) 64 w := by
  intro l J Jx W0 hW hJ _ hY h0
  have hW' := hW.mono hn₀
  refine (pwin_in n hn l g n₀ b off H W C N c kk o d top left G ht hd ho hk7 t1 t2 l1 l2 hg hb J Jx (abides_below hJ) hY W0 (Nat.le_trans hn₀ hW.size) (hcap.below hg hW') (fun j hj => (hW'.cell (p := ⟨b, off + j, none⟩) hb).trans (hc j hj)) h0).mono ?_
  rintro e W' ⟨he, (⟨ls, rfl, hj⟩ | ⟨pre, hj⟩)⟩
  · exact ⟨he, .inl ⟨_, rfl, hj⟩⟩
  · exact ⟨he, .inr ⟨_, trivial, hj⟩⟩
end Go.Proofs.YtoghpoopgkahiaaGreatDoor.CPool
end
