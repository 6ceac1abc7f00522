/- The table, as the row lists it. -/
import Derived.Test.YtkmcmaickopobabDoorCrcJoin
import Derived.ProofKit
import Derived.LaidMore
import Derived.OpenShut
import Derived.Stop.Joined
namespace Go.Proofs.YtkmcmaickopobabDoor.CCrc
open Go Go.ChangeShapes Go.WideShapes Go.ChangeAt Go.RowKit Go.WideElems
open CrcNum
set_option linter.unusedVariables false

theorem gVar : Tryd.prog.globalNamed "stepwell/crc.halves" = some 0 := by kernel_rfl
theorem tVar : (Tryd.prog.globals[0]?).map (·.type) = some 25 := by kernel_rfl
def tabZ : List Int := [0, 498536548, 997073096, 651767980, 1994146192, 1802195444, 1303535960, 1342533948, 3988292384, 4027552580, 3604390888, 3412177804, 2607071920, 2262029012, 2685067896, 3183342108]
theorem tabZ_at : ∀ n : Nat, n < 16 → tabZ[n]? = some (toI (tab n)) := by decide +kernel
theorem of_laid {W : World} (h : laidMetH Tryd.prog [("stepwell/crc.halves", Rows.laid_stepwell_crc_halves)] W) : TableIn W := by
  rw [MakeChecks.laidMetH_plain _ _ _ (by kernel_rfl)] at h
  obtain ⟨ps, ⟨g0, t0, cs0, f0, p0, q0, hg0, ht0, hv0, hd0, _⟩, _, _⟩ := h
  obtain rfl := Option.some.inj (gVar.symm.trans hg0)
  obtain rfl := Option.some.inj (tVar.symm.trans ht0)
  obtain ⟨xs, m1, rfl, hx1, hlen, hn3, hel⟩ := DataW.trod_array Tryd.underlying25 hd0
  have c1 : Tryd.prog.cellsOf 23 = 1 := by kernel_rfl
  intro n hn
  rw [World.var?_cell hg0 hv0 n]
  have hi := hel n hn
  rw [c1] at hi
  have hxs : xs.map (·.1) = tabZ.map fun z => .lit (.int .u32 z) := by
    have := congrArg Prod.fst hx1
    simp only [Rows.laid_stepwell_crc_halves, DataW.agg.injEq] at this
    exact this.symm
  have hxn : (xs.map (·.1))[n]? = some (.lit (.int .u32 (toI (tab n)))) := by
    rw [hxs, List.getElem?_map, tabZ_at n hn]; rfl
  rw [List.getElem?_map] at hxn
  obtain ⟨x, hx, hx2⟩ := Option.map_eq_some_iff.1 hxn
  rw [hx] at hi
  obtain ⟨k, e1, e2, _⟩ := DataW.trod_int Tryd.underlying23 hi
  have hk : k = toI (tab n) := by rw [e2] at hx2; simpa using hx2
  subst hk
  have h0 := congrArg (fun l : List Value => l[0]?) e1
  simpa using h0
end Go.Proofs.YtkmcmaickopobabDoor.CCrc
