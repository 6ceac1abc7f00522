/- Layer 22 (rank): the order, and its beginning. -/
import Derived.Test.YtlpnaacagbgnkaaRankSorted
namespace Go.Proofs.Ytlpnaacagbgnkaa.CRank
open Go Go.ChangeShapes Go.WideShapes Go.ChangeAt Go.RowKit
open Plain
set_option linter.unusedVariables false

def madeR (k i : Nat) : Int := if i < k then (i : Int) else 0
theorem i64_at (F : Nat → Int) {d r : Nat} (h : r < d) : (I64v (rowL F d))[r]? = some (.int .i64 (F r)) := by simp [I64v, rowL, h]
theorem madeR_zero (N : Nat) : I64v (rowL (madeR 0) N) = List.replicate N (.int .i64 0) := by
  refine List.ext_getElem (by simp [I64v, rowL]) fun i h1 h2 => ?_
  simp [I64v, rowL, madeR]
theorem madeR_all (N : Nat) : rowL (madeR N) N = rowL (fun i => (i : Int)) N := rowL_congr (fun i hi => by unfold madeR; rw [if_pos hi])
theorem madeR_set {N o : Nat} : (I64v (rowL (madeR o) N)).set o (.int .i64 o) = I64v (rowL (madeR (o + 1)) N) := by
  refine List.ext_getElem (by simp [I64v, rowL]) fun i h1 h2 => ?_
  rw [List.getElem_set]
  by_cases e : o = i
  · subst e
    rw [if_pos rfl]
    simp [I64v, rowL, madeR]
  · rw [if_neg e]
    simp only [I64v, rowL, List.map_map, List.getElem_map, List.getElem_range, Function.comp, madeR]
    by_cases h : i < o
    · rw [if_pos h, if_pos (by omega)]
    · rw [if_neg h, if_neg (by omega)]
theorem info_parts {P : Program} {t : TypeId} {z : Option Value} {s b : Nat} (h : (P.info? t).map (fun i => (i.zero, i.size, i.bytes)) = some (z, s, b)) : ∃ i, P.info? t = some i ∧ i.zero = z ∧ i.size = s ∧ i.bytes = b := by
  cases hi : P.info? t with
  | none => rw [hi] at h; cases h
  | some i => rw [hi] at h; simp at h; exact ⟨i, rfl, h.1, h.2.1, h.2.2⟩
theorem info_int : (Try.prog.info? 3).map (fun i => (i.zero, i.size, i.bytes)) = some (some (.int .i64 0), 1, 8) := by kernel_rfl
/-- a call that hands back a list of its own. -/
def Owned (w : World) (T n : Nat) (xs : List Value) (e : Ending) (w' : World) : Prop :=
  ∃ v, e = .returned v ∧ w'.ownsRow w.heap.size T 1 v n xs ∧ Below w.heap.size w w'
set_option maxRecDepth 100000 in
set_option maxHeartbeats 4000000 in
theorem order_to (G : Nat → Int) (n : Nat) (hn : n ≤ 60) (A : Option Addr) (c : Nat) (w : World) (hr : Kit.Rd w w.heap.size A (I32v (rowL G n))) :
    Calls Try.prog 15 #[.slice A n c] w (Owned w 3 n (I64v (orderL G n))) := by
  have HA := Lib.hid hr
  clear hr
  go_enter Try.func15, Try.ntmps15
  obtain ⟨i0, hi0, hi1, hi2, hi3⟩ := info_parts info_int
  go_wp2_with (at_make; refine wpList_make_full _ rfl (.tmp 6) (.tmp 6) _ rfl w.heap.size 3 i0 (.int .i64 0) 1 Try.underlying27 hi0 hi1 hi2 .i64 .i64 _ _ n rfl rfl rfl rfl (by rw [hi3]; omega) (by unfold maxLen; omega) (by simp) ?_; intro w2 hown hg2)
  have hB2 : Below w.heap.size w w2 := (Below.refl _ _).grown hg2 (by simp) (fun q hq => by cases hq)
  rw [show (madeCells (Value.int IntKind.i64 0).cells (n * 1)).toList = List.replicate n (.int .i64 0) by rw [Nat.mul_one]; exact toList_madeCells_one _ _] at hown
  rw [← madeR_zero n] at hown
  have HOWN := Lib.hid hown
  have HB0 := Lib.hid hB2
  have hsz := Kit.block_lt_of_own hown
  have HSZ := Lib.hid hsz
  clear hown hB2 hg2 hi0 hi1 hi2 hi3 hsz
  go_loopw [10] (fun u wr => ∃ i : Nat, i ≤ n ∧ u = .int .i64 i ∧ Hid (wr.ownsRow w.heap.size 3 1 (.slice (some ⟨w.heap.size, 0, none⟩) n n) n (I64v (rowL (madeR i) n))) ∧ Hid (Below w.heap.size w wr) ∧ Hid (w.heap.size < wr.heap.size)) (fun u _ => n - (intOf u).toNat)
  case atStart => exact ⟨0, Nat.zero_le _, rfl, HOWN, HB0, HSZ⟩
  case round =>
    obtain ⟨i, hi, rfl, HO, HB, HS⟩ := hrel
    clear HOWN HB0 HSZ
    by_cases hlt : i < n
    · have ks : wr.cell? ⟨w.heap.size, i, none⟩ = some (.int .i64 (madeR i i)) := (HO.out.cellAt i (by omega)).trans (i64_at _ hlt)
      have fs : wr.frozen? ⟨w.heap.size, i, none⟩ = false := HO.out.frozenAt i
      have h0 : (0 : Int) ≤ (i : Int) := by omega
      have h1 : (i : Int) < (n : Int) := by omega
      have hst := (HO.out.stored i (.int .i64 i)).1
      rw [madeR_set] at hst
      have HST := Lib.hid hst
      clear hst
      go_wp2_with fail
      go_roundw
      case rel => exact ⟨i + 1, by omega, by go_num, HST, Lib.hid (HB.out.setCell (by simp) _), Lib.hid (by simpa using HS.out)⟩
      case measure => simp [intOf]; omega
    · obtain rfl : i = n := by omega
      have hfin := HO.out
      rw [madeR_all] at hfin
      have hs := HS.out
      have hB := HB.out
      have hal : Below wr.heap.size wr (wr.alloc (.cells #[.slice A i c] 22)) := (Below.refl _ _).alloc (Nat.le_refl _) _
      have hown := Kit.own_below hfin hal
      have hnew := Kit.new_cell wr #[.slice A i c] 22 0
      have hA := (HA.out.below hB).alloc (B := w.heap.size) (Nat.le_of_lt hs) (.cells #[.slice A i c] 22)
      generalize hb9 : w.heap.size = b9 at *
      have hbx : b9 ≠ wr.heap.size := by omega
      have HBX := Lib.hid hbx
      have HB9 := Lib.hid hb9
      have hBW : Below b9 w (wr.alloc (.cells #[.slice A i c] 22)) := hB.trans (hal.mono (by omega))
      have HBW := Lib.hid hBW
      clear HO HB HS hfin hs hB hbx hb9 hBW
      cases i with
      | zero =>
        have HOW := Lib.hid hown
        clear hown hal hnew hA
        go_wp2_with (first
          | (go_at_call 18; (refine (inOrder_to A 0 c wr).mono ?_); rintro e w1 ⟨rfl, hw1⟩; subst hw1)
          | (go_at_call 19; (refine (Try.slices_SortFunc_none (α := Nat) _ _ _ _).mono ?_); rintro e w1 ⟨rfl, hw1⟩; subst hw1))
        go_ret
        obtain rfl := HB9.out
        exact ⟨_, rfl, HOW.out, HBW.out⟩
      | succ m =>
        have hsort := sorted_to G m (by omega) A c b9 wr.heap.size b9 _ hnew HBX.out hA hown
        have HSRT := Lib.hid hsort
        clear hsort hown hal hnew hA
        go_wp2_with (first
          | (go_at_call 18; (refine (inOrder_to A (m + 1) c wr).mono ?_); rintro e w1 ⟨rfl, hw1⟩; subst hw1)
          | (go_at_call 19; (refine HSRT.out.mono ?_); rintro e w1 ⟨rfl, ho, hg⟩))
        go_ret
        obtain rfl := HB9.out
        exact ⟨_, rfl, ho, HBW.out.grown hg (by have := HBW.out.size; omega) (fun q hq => by cases hq; omega)⟩
end Go.Proofs.Ytlpnaacagbgnkaa.CRank
