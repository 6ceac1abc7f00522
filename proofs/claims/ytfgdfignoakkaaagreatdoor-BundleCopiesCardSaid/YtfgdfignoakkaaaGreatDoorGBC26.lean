/- -/
import Derived.Test.YtfgdfignoakkaaaGreatDoorGBC25
open Nat (le_refl lt_of_succ_lt lt_succ_self)
set_option linter.unusedVariables false
set_option linter.unusedSimpArgs false
set_option maxRecDepth 100000
set_option maxHeartbeats 16000000
namespace Go.Proofs.YtfgdfignoakkaaaGreatDoor
open Go Go.ChangeShapes Go.WideShapes Go.ChangeAt Go.RowKit
section
namespace CCrc
open CrcNum
theorem cell_in {w:World} {b o:Nat} {v:Value} (h:w.cell? ⟨b,o,none⟩=some v):b < w.heap.size:=by
 unfold World.cell? at h
 rcases Nat.lt_or_ge b w.heap.size with hlt | hge
 ·exact hlt
 ·rw [show w.heap[(⟨b,o,none⟩:Addr).block]?=none from Array.getElem?_eq_none hge] at h
  cases h
theorem zah.size {w:World} (h:zah w):0 < w.heap.size:=cell_in (h 0 (by decide))
theorem zah.below {w w':World} {n:Nat} (h:zah w) (hb:Below n w w') (hn:0 < n):zah w':=fun j hj=>(hb.cell (p:=⟨0,j,none⟩) hn).trans (h j hj)
end CCrc
end
end Go.Proofs.YtfgdfignoakkaaaGreatDoor
