/- -/
import Derived.Test.YtjhlkmnpfibgaaaDoorGM38
open Nat (le_refl lt_of_succ_lt lt_succ_self)
set_option linter.unusedVariables false
set_option linter.unusedSimpArgs false
set_option maxRecDepth 100000
set_option maxHeartbeats 16000000
namespace Go.Proofs.YtjhlkmnpfibgaaaDoor
namespace CConv
end CConv
namespace CDense
end CDense
namespace CFix
end CFix
namespace CGraph
end CGraph
namespace CKind
end CKind
namespace CSat
end CSat
namespace CShape
end CShape
namespace CTensor
end CTensor
open Go Go.ChangeShapes Go.WideShapes Go.ChangeAt Go.RowKit Go.Deep
section
namespace CCost
open Plain CSat CFix CShape CTensor CConv CKind CGraph CDense
def TriAt (B:Nat) (a:Tri) (w:World):Prop:=w.cell? ⟨B,0,none⟩=some (.int .i64 a.1)∧w.cell? ⟨B,1,none⟩=some (.int .i64 a.2.1)∧w.cell? ⟨B,2,none⟩=some (.int .i64 a.2.2)
theorem TriAt.new (a:Tri) (T:TypeId) (w:World):TriAt w.heap.size a (w.alloc (.cells #[.int .i64 a.1,.int .i64 a.2.1,.int .i64 a.2.2] T)):=⟨Kit.zaf _ _ _ _,Kit.zaf _ _ _ _,Kit.zaf _ _ _ _⟩
theorem TriAt.below {B B':Nat} {a:Tri} {w w':World} (h:TriAt B a w) (hB:B < B') (hb:Below B' w w'):TriAt B a w' :=
 ⟨(hb.cell (p:=⟨B,0,none⟩) hB).trans h.1,(hb.cell (p:=⟨B,1,none⟩) hB).trans h.2.1,(hb.cell (p:=⟨B,2,none⟩) hB).trans h.2.2⟩
theorem wrap_in {z:Int} (h1:0≤z) (h2:z≤26214400):IntKind.i64.wrap z=z:=IntWalk.i64_in _ (by omega)
theorem cost_ways (x:Nd) (a b:Tri) :
  (eZ x a b≠0∧costZ x a b=0)∨(eZ x a b=0∧x.kd=1∧costZ x a b=elT (sZ x a b) * x.K * x.K * a.2.2)∨(eZ x a b=0∧¬ x.kd=1∧(x.kd=2∨x.kd=4∨x.kd=5)∧costZ x a b=elT (sZ x a b) * x.K * x.K) ∨
  (eZ x a b=0∧x.kd=3∧costZ x a b=elT (sZ x a b) * elT a)∨(eZ x a b=0∧¬ x.kd=1∧¬ x.kd=2∧¬ x.kd=3∧¬ x.kd=4∧¬ x.kd=5∧costZ x a b=elT (sZ x a b)):=by
 by_cases h:eZ x a b=0
 ·have e:∀ p:Prop,(¬ eZ x a b≠0):=fun _=>by omega
  by_cases k1:x.kd=1
  ·exact .inr (.inl ⟨h,k1,by unfold costZ;rw [if_neg (by omega),if_pos k1]⟩)
  ·by_cases k2:x.kd=2∨x.kd=4∨x.kd=5
   ·exact .inr (.inr (.inl ⟨h,k1,k2,by unfold costZ;rw [if_neg (by omega),if_neg k1,if_pos k2]⟩))
   ·by_cases k3:x.kd=3
    ·exact .inr (.inr (.inr (.inl ⟨h,k3,by unfold costZ;rw [if_neg (by omega),if_neg k1,if_neg k2,if_pos k3]⟩)))
    ·exact .inr (.inr (.inr (.inr ⟨h,k1,by omega,k3,by omega,by omega,by unfold costZ;rw [if_neg (by omega),if_neg k1,if_neg k2,if_neg k3]⟩)))
 ·exact .inl ⟨h,by unfold costZ;rw [if_pos h]⟩
theorem win_mul {m K:Int} (m1:1≤m) (m2:m≤1024) (k1:1≤K) (k2:K≤5):IntKind.i64.wrap (m * K)=m * K∧IntKind.i64.wrap (m * K * K)=m * K * K∧1≤m * K * K∧m * K * K≤25600:=by
 have e1:=mul_le m1 m2 k1 k2 (by omega)
 have e2:=mul_le e1.1 e1.2 k1 k2 (by omega)
 exact⟨wrap_in (by omega) (by omega),wrap_in (by omega) (by omega),e2.1,by omega⟩
end CCost
end
end Go.Proofs.YtjhlkmnpfibgaaaDoor
