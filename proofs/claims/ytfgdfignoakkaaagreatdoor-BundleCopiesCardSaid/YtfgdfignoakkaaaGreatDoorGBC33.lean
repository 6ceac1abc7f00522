/- -/
import Derived.Test.YtfgdfignoakkaaaGreatDoorGBC19
open Nat (le_refl lt_of_succ_lt lt_succ_self)
set_option linter.unusedVariables false
set_option linter.unusedSimpArgs false
set_option maxRecDepth 100000
set_option maxHeartbeats 16000000
namespace Go.Proofs.YtfgdfignoakkaaaGreatDoor
namespace CGraph
end CGraph
namespace CKind
end CKind
namespace Kit
end Kit
namespace Plain
end Plain
open Go Go.ChangeShapes Go.WideShapes Go.ChangeAt Go.RowKit Go.Deep
section
namespace CBunM
open Kit Plain CKind CGraph CBund
structure Muts (lo hi:Nat) (w w':World):Prop where
 below:Below lo w w'
 above:∀ k,hi≤k→k < w.heap.size→w'.heap[k]?=w.heap[k]?
 head:∀ b o A n c,lo≤b→b < hi→w.cell? ⟨b,o,none⟩=some (.slice A n c)→w'.cell? ⟨b,o,none⟩=some (.slice A n c)
 int:∀ b o k z,lo≤b→b < hi→w.cell? ⟨b,o,none⟩=some (.int k z)→∃ z',w'.cell? ⟨b,o,none⟩=some (.int k z')
 fr:∀ b o,lo≤b→b < hi→w'.frozen? ⟨b,o,none⟩=w.frozen? ⟨b,o,none⟩
theorem Muts.refl (lo hi:Nat) (w:World):Muts lo hi w w:=⟨Below.refl _ _,fun _ _ _=>rfl,fun _ _ _ _ _ _ _ h=>h,fun _ _ _ z _ _ h=>⟨z,h⟩,fun _ _ _ _=>rfl⟩
theorem Muts.drew {lo hi:Nat} {w w':World} (h:Muts lo hi w w'):Muts lo hi w w'.drew:=⟨h.below.drew,h.above,h.head,h.int,h.fr⟩
theorem Muts.set {lo hi:Nat} {w w':World} (h:Muts lo hi w w') {b o:Nat} {k:IntKind} {z:Int} (z':Int) (h1:lo≤b) (h2:b < hi) (hc:w'.cell? ⟨b,o,none⟩=some (.int k z)):Muts lo hi w (w'.setCell ⟨b,o,none⟩ (.int k z')) where
 below:=h.below.setCell (p:=⟨b,o,none⟩) h1 _
 above:=fun q hq hs=>(Below.heap_setCell w' ⟨b,o,none⟩ _ q (by show q≠b;omega)).trans (h.above q hq hs)
 head:=fun b1 o1 A n c h3 h4 h5=>by
  have h6:=h.head b1 o1 A n c h3 h4 h5
  by_cases e:(⟨b,o,none⟩:Addr)=⟨b1,o1,none⟩
  ·rw [← e,hc] at h6
   cases h6
  ·exact (World.cell?_setCell_other _ _ _ _ e).trans h6
 int:=fun b1 o1 k1 z1 h3 h4 h5=>by
  obtain⟨z2,h6⟩:=h.int b1 o1 k1 z1 h3 h4 h5
  by_cases e:(⟨b,o,none⟩:Addr)=⟨b1,o1,none⟩
  ·rw [← e] at h6 ⊢
   rw [hc] at h6
   simp only [Option.some.injEq,Value.int.injEq] at h6
   obtain⟨rfl,_⟩:=h6
   exact⟨z',World.cell?_setCell_same' _ _ _ (by rw [hc];rfl)⟩
  ·exact⟨z2,(World.cell?_setCell_other _ _ _ _ e).trans h6⟩
 fr:=fun b1 o1 h3 h4=>(World.frozen?_setCell _ _ _ _).trans (h.fr b1 o1 h3 h4)
theorem Muts.kept {lo hi l q:Nat} {w w':World} (h:Muts lo hi w w') (h1:hi≤l) (h2:q≤w.heap.size):Kept l q w w':=fun b o h3 h4 =>
 ⟨World.cell?_of_block (h.above b (Nat.le_trans h1 h3) (Nat.lt_of_lt_of_le h4 h2)),World.frozen?_of_block (h.above b (Nat.le_trans h1 h3) (Nat.lt_of_lt_of_le h4 h2))⟩
end CBunM
end
end Go.Proofs.YtfgdfignoakkaaaGreatDoor
