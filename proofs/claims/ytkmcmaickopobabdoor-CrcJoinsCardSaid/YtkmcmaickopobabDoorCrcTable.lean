/- Contracts of package crc: the table. -/
import Derived.Test.YtkmcmaickopobabDoorCrc
namespace Go.Proofs.YtkmcmaickopobabDoor.CCrc
open Go Go.ChangeShapes Go.WideShapes Go.ChangeAt Go.RowKit
open CrcNum
set_option linter.unusedVariables false

theorem cell_in {w : World} {b o : Nat} {v : Value} (h : w.cell? ⟨b, o, none⟩ = some v) : b < w.heap.size := by
  unfold World.cell? at h
  rcases Nat.lt_or_ge b w.heap.size with hlt | hge
  · exact hlt
  · rw [show w.heap[(⟨b, o, none⟩ : Addr).block]? = none from Array.getElem?_eq_none hge] at h
    cases h
theorem TableIn.size {w : World} (h : TableIn w) : 0 < w.heap.size := cell_in (h 0 (by decide))
theorem TableIn.below {w w' : World} {n : Nat} (h : TableIn w) (hb : Below n w w') (hn : 0 < n) : TableIn w' := fun j hj => (hb.cell (p := ⟨0, j, none⟩) hn).trans (h j hj)
theorem range_new (w : World) (cs : List Value) (T : TypeId) : (w.alloc (.cells cs.toArray T)).rangeAt w.heap.size 0 cs := by
  intro j v hj
  obtain ⟨ad, e, _, hc⟩ := Kit.Rd.new w cs T (Nat.lt_succ_self _) j v hj
  cases e
  have e2 : (⟨w.heap.size, 0, none⟩ : Addr).add j = ⟨w.heap.size, 0 + j, none⟩ := by
    unfold Addr.add; split
    · rename_i h; subst h; rfl
    · rfl
  rw [e2] at hc
  exact hc
/-- the table as it is handed back. -/
def tabV : List Value := (List.range 16).map fun n => .int .u32 (toI (tab n))
theorem table (w : World) (hT : TableIn w) :
    Calls Tryd.prog 7 #[] w fun e w' => e = .returned (.agg tabV.toArray) ∧ Below w.heap.size w w' := by
  have h0 := hT.size
  have c0 := hT 0 (by decide)
  have c1 := hT 1 (by decide)
  have c2 := hT 2 (by decide)
  have c3 := hT 3 (by decide)
  have c4 := hT 4 (by decide)
  have c5 := hT 5 (by decide)
  have c6 := hT 6 (by decide)
  have c7 := hT 7 (by decide)
  have c8 := hT 8 (by decide)
  have c9 := hT 9 (by decide)
  have c10 := hT 10 (by decide)
  have c11 := hT 11 (by decide)
  have c12 := hT 12 (by decide)
  have c13 := hT 13 (by decide)
  have c14 := hT 14 (by decide)
  have c15 := hT 15 (by decide)
  have e : tabV = [.int .u32 (toI (tab 0)), .int .u32 (toI (tab 1)), .int .u32 (toI (tab 2)), .int .u32 (toI (tab 3)), .int .u32 (toI (tab 4)), .int .u32 (toI (tab 5)), .int .u32 (toI (tab 6)), .int .u32 (toI (tab 7)), .int .u32 (toI (tab 8)), .int .u32 (toI (tab 9)), .int .u32 (toI (tab 10)), .int .u32 (toI (tab 11)), .int .u32 (toI (tab 12)), .int .u32 (toI (tab 13)), .int .u32 (toI (tab 14)), .int .u32 (toI (tab 15))] := rfl
  rw [e]
  generalize toI (tab 0) = t0 at *
  generalize toI (tab 1) = t1 at *
  generalize toI (tab 2) = t2 at *
  generalize toI (tab 3) = t3 at *
  generalize toI (tab 4) = t4 at *
  generalize toI (tab 5) = t5 at *
  generalize toI (tab 6) = t6 at *
  generalize toI (tab 7) = t7 at *
  generalize toI (tab 8) = t8 at *
  generalize toI (tab 9) = t9 at *
  generalize toI (tab 10) = t10 at *
  generalize toI (tab 11) = t11 at *
  generalize toI (tab 12) = t12 at *
  generalize toI (tab 13) = t13 at *
  generalize toI (tab 14) = t14 at *
  generalize toI (tab 15) = t15 at *
  clear hT e
  go_enter Tryd.func7, Tryd.ntmps7
  go_wp2_with fail
  refine bodyPost_ret (Kit.results_c rfl _ _ w.heap.size 0 [.int .u32 t0, .int .u32 t1, .int .u32 t2, .int .u32 t3, .int .u32 t4, .int .u32 t5, .int .u32 t6, .int .u32 t7, .int .u32 t8, .int .u32 t9, .int .u32 t10, .int .u32 t11, .int .u32 t12, .int .u32 t13, .int .u32 t14, .int .u32 t15] _ rfl (range_new _ _ _) Tryd.underlying25 rfl (by kernel_rfl)) rfl ?_
  exact ⟨rfl, (Below.refl _ _).alloc (Nat.le_refl _) _⟩
end Go.Proofs.YtkmcmaickopobabDoor.CCrc
