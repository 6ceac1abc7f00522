/- Layer 22 (rank): slices.SortFunc by the library's own contract, at a row of one's own places. -/
import Derived.Test.YtlpnaacagbgnkaaRankSort
namespace Go.Proofs.Ytlpnaacagbgnkaa.CRank
open Go Go.ChangeShapes Go.WideShapes Go.ChangeAt Go.RowKit
open Plain
set_option linter.unusedVariables false

def I64v (zs : List Int) : List Value := zs.map (.int .i64)
section
variable {α : Type} [Inhabited α] {enc : α → Value} {w : World} {blk off m : Nat} {dk : Array α} {os : Array Obj}
theorem sw_old {k : Nat} (hk : k < w.heap.size) (hn : blk ≠ k) : (sortWorld enc w blk off m dk os).heap[k]? = w.heap[k]? := by
  unfold sortWorld
  rw [Sort.heap_grow_old _ _ (by simpa using hk)]
  simp [Sort.putRow, Sort.mapBlock, Array.getElem?_modify, hn]
theorem sw_row {cur : Array Value} {e : TypeId} {fr : Nat × Nat} (hb : w.heap[blk]? = some (.cells cur e fr)) : (sortWorld enc w blk off m dk os).heap[blk]? = some (.cells (Sort.putCells enc off dk cur) e fr) := by
  have hlt : blk < w.heap.size := by
    rcases Nat.lt_or_ge blk w.heap.size with h | h
    · exact h
    · rw [Array.getElem?_eq_none h] at hb; cases hb
  unfold sortWorld
  rw [Sort.heap_grow_old _ _ (by simpa using hlt)]
  simp [Sort.putRow, Sort.mapBlock, Array.getElem?_modify, hb, Sort.onCells]
theorem sw_grown : w.grownBy (sortWorld enc w blk off m dk os) (some blk) := by
  refine ⟨rfl, rfl, rfl, ?_, fun k hk hn => sw_old hk (fun e => hn (by rw [e]))⟩
  unfold sortWorld Sort.grow
  simp
end
theorem cells_all {α : Type} [Inhabited α] (enc : α → Value) (dk : Array α) (cur : Array Value) (h : cur.size = dk.size) : Sort.putCells enc 0 dk cur = dk.map enc := by
  apply Array.ext_getElem?
  intro k
  simp only [Sort.putCells, Array.getElem?_mapIdx, Array.getElem?_map]
  by_cases hk : k < dk.size
  · rw [Array.getElem?_eq_getElem (show k < cur.size by omega), Array.getElem?_eq_getElem hk]
    simp [hk]
  · rw [Array.getElem?_eq_none (show cur.size ≤ k by omega), Array.getElem?_eq_none (show dk.size ≤ k by omega)]
    rfl
def encF {m : Nat} (x : Fin (m + 1)) : Value := .int .i64 ((x.val : Nat) : Int)
def cfF (G : Nat → Int) {m : Nat} (x y : Fin (m + 1)) : Int := ordZ G x.val y.val
theorem ltF (G : Nat → Int) {m : Nat} (x y : Fin (m + 1)) : ltOf (cfF G) x y = ahd G x.val y.val := ordZ_neg G _ _
theorem swoF (G : Nat → Int) (m : Nat) : Sort.SWO (ltOf (cfF (m := m) G)) where
  irrefl x := by rw [ltF]; exact ahd_irr G _
  trans x y z h1 h2 := by rw [ltF] at *; exact ahd_trans h1 h2
  ntrans x y z h1 h2 := by
    rw [ltF] at *
    simp [ahd] at *; omega
theorem totF (G : Nat → Int) (m : Nat) (x y : Fin (m + 1)) (h1 : ltOf (cfF G) x y = false) (h2 : ltOf (cfF G) y x = false) : x = y := by
  rw [ltF] at *
  exact Fin.ext (ahd_tot h1 h2)
def finA (m : Nat) : Array (Fin (m + 1)) := (List.finRange (m + 1)).toArray
theorem finA_size (m : Nat) : (finA m).size = m + 1 := by simp [finA]
theorem finA_at {m j : Nat} (h : j < m + 1) : (finA m)[j]! = ⟨j, h⟩ := by
  rw [getElem!_pos _ j (by rw [finA_size]; exact h)]
  simp [finA]
theorem own_cell {w : World} {base T n b : Nat} {xs : List Value} (h : w.ownsRow base T 1 (.slice (some ⟨b, 0, none⟩) n n) n xs) : ∃ cur : Array Value, w.heap[b]? = some (.cells cur T (0, 0)) ∧ cur.size = n ∧ cur.toList = xs ∧ base ≤ b ∧ n ≤ maxLen := by
  rcases h.2 with ⟨h0, _⟩ | ⟨g, cap, cur, h0, hb, hh, _, hm, hs, ht⟩
  · cases h0
  · cases h0
    rw [Nat.mul_one] at hs ht
    refine ⟨cur, hh, hs, ?_, hb, hm⟩
    rw [← ht, List.take_of_length_le (by simp [hs])]
theorem frozen_none {w : World} {b o T : Nat} {cur : Array Value} (h : w.heap[b]? = some (.cells cur T (0, 0))) : w.frozen? ⟨b, o, none⟩ = false := by
  simp [World.frozen?, h]
set_option maxHeartbeats 1000000 in
theorem sorted_to (G : Nat → Int) (m : Nat) (hm : m + 1 ≤ 60) (A : Option Addr) (c : Nat) (b bx : Nat) (base : Nat) (w : World) (hx : w.cell? ⟨bx, 0, none⟩ = some (.slice A (m + 1) c)) (hbx : b ≠ bx) (hr : Kit.Rd w b A (I32v (rowL G (m + 1))))
    (hown : w.ownsRow base 3 1 (.slice (some ⟨b, 0, none⟩) (m + 1) (m + 1)) (m + 1) (I64v (rowL (fun i => (i : Int)) (m + 1)))) :
    Calls Try.prog 19 #[.slice (some ⟨b, 0, none⟩) (m + 1) (m + 1), .func (.func 20) #[] #[.pointer (some ⟨bx, 0, none⟩)]] w fun e w' =>
      e = .returned (.tuple #[]) ∧ w'.ownsRow base 3 1 (.slice (some ⟨b, 0, none⟩) (m + 1) (m + 1)) (m + 1) (I64v (orderL G (m + 1))) ∧ w.grownBy w' (some b) := by
  obtain ⟨cur, hcur, hsz, hlist, hbase, hmax⟩ := own_cell hown
  have hblk : b < w.heap.size := Kit.block_lt_of_own hown
  have hbxs : bx < w.heap.size := Kit.block_lt hx
  have eg : ∀ args w, (callFunc 20 args).run Try.prog w = .ok (.enter 20 args) w := enters_of Try.func20 (by kernel_rfl) rfl
  have hH : Sort.Holds (encF (m := m)) w b 0 (finA m) := by
    intro j hj
    rw [finA_size] at hj
    refine ⟨?_, frozen_none hcur⟩
    rw [finA_at hj, Nat.zero_add, cell_of_row _ _ _ _ _ _ hcur, ← Array.getElem?_toList, hlist]
    simp [I64v, rowL, hj, encF]
  have hcmp : CmpReads Try.prog 20 #[.pointer (some ⟨bx, 0, none⟩)] (encF (m := m)) (cfF G) b 0 (finA m).size w := by
    intro q os dk hdk x y
    refine closure_to G (m + 1) hm A c x.val y.val x.isLt y.isLt _ rfl bx _ ?_ (B := b) ?_
    · exact (World.cell?_of_block (sw_old hbxs hbx)).trans hx
    · exact hr.keep fun p hp => World.cell?_of_block (sw_old (by omega) (by omega))
  have h := Try.slices_SortFunc_total (encF (m := m)) (fun _ => rfl) (cfF G) (swoF G m) 20 #[.pointer (some ⟨bx, 0, none⟩)] b 0 (m + 1) (finA m) w eg hcmp.lays hH hblk (by rw [finA_size]; omega) (totF G m)
  rw [finA_size] at h
  refine h.mono fun e w' ⟨he, n, os, hw⟩ => ⟨he, ?_, ?_⟩
  · subst hw
    have hp : ((finA m).toList.mergeSort fun x y => !ltOf (cfF G) y x) = pick (m := m) G := by
      unfold pick finA
      congr 1
      funext x y
      rw [ltF]
    rw [hp]
    have hl : (pick (m := m) G).length = m + 1 := by rw [(pick_perm G).length_eq, List.length_finRange]
    refine ⟨by simp [I64v, orderL_len], .inr ⟨b, m + 1, _, rfl, hbase, sw_row hcur, Nat.le_refl _, hmax, ?_, ?_⟩⟩
    · rw [cells_all _ _ _ (by simp [hsz, hl])]; simp [hl]
    · rw [cells_all _ _ _ (by simp [hsz, hl])]
      rw [List.take_of_length_le (by simp [hl])]
      simp [I64v, orderL, encF]
  · subst hw; exact sw_grown
end Go.Proofs.Ytlpnaacagbgnkaa.CRank
