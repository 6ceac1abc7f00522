/- -/
import Derived.Test.YtjhlkmnpfibgaaaDoorGM39
import Derived.Test.YtjhlkmnpfibgaaaDoorGM42
import Derived.Test.YtjhlkmnpfibgaaaDoorGM43
open Nat (le_refl lt_of_succ_lt lt_succ_self)
set_option linter.unusedVariables false
set_option linter.unusedSimpArgs false
set_option maxRecDepth 100000
set_option maxHeartbeats 16000000
namespace Go.Proofs.YtjhlkmnpfibgaaaDoor
namespace CConv
end CConv
namespace CDense
end CDense
namespace CFix
end CFix
namespace CGraph
end CGraph
namespace CKind
end CKind
namespace CSat
end CSat
namespace CShape
end CShape
namespace CTensor
end CTensor
open Go Go.ChangeShapes Go.WideShapes Go.ChangeAt Go.RowKit Go.Deep
section
namespace CCost
open Plain CSat CFix CShape CTensor CConv CKind CGraph CDense CBund
def outT (X:Nat→Nd) (t0:Tri) (n:Nat):Tri:=(shL X t0 n).getD n tri0
def BlkAt (B:Nat) (b:Bk) (w:World):Prop:=w.cell? ⟨B,0,none⟩=some (.slice b.A b.n b.c)∧w.cell? ⟨B,1,none⟩=some (.bool b.ex)
theorem BlkAt.new (b:Bk) (T:TypeId) (w:World):BlkAt w.heap.size b (w.alloc (.cells b.val.toArray T)):=⟨Kit.zaf _ _ _ _,Kit.zaf _ _ _ _⟩
theorem BlkAt.below {B B':Nat} {b:Bk} {w w':World} (h:BlkAt B b w) (hB:B < B') (hb:Below B' w w'):BlkAt B b w' :=
 ⟨(hb.cell (p:=⟨B,0,none⟩) hB).trans h.1,(hb.cell (p:=⟨B,1,none⟩) hB).trans h.2⟩
theorem stopAt_nzC {X:Nat→Nd} {t0:Tri} : ∀ {n:Nat} {r:Nat × Int},zaq X t0 n=some r→r.2≠0
 | 0,r,h=>by cases h
 | n+1,r,h=>by
   rw [zaq] at h
   cases hs:zaq X t0 n with
   | some q=>rw [hs] at h;cases h;exact stopAt_nzC hs
   | none =>
     rw [hs] at h
     dsimp only at h
     split at h
     ·cases h
     ·rename_i hz;cases h;exact hz
theorem outS_nzC {X:Nat→Nd} {t0:Tri} {n:Nat} {k z:Int} (h:outS X t0 n=some (k,z)):z≠0:=by
 unfold outS at h
 split at h
 ·cases h;decide
 ·split at h
  ·cases h;decide
  ·split at h
   ·cases h;decide
   ·cases hs:zaq X t0 n with
    | none=>rw [hs] at h;cases h
    | some r=>rw [hs] at h;cases h;exact stopAt_nzC hs
end CCost
end
section
namespace CGraph
open Plain CSat CFix CShape CTensor CConv CKind
def nd9:Nd:=⟨9,0,0,0,0,0,0,0,0,none,0,0,none,0,0,0,0,0,0,0,0,0,0⟩
/-! ### what Shapes tells, in one form -/
def outL (X:Nat→Nd) (t0:Tri) (n:Nat):List Tri:=match outS X t0 n with | some _=>[] | none=>shL X t0 n
def outZ (X:Nat→Nd) (t0:Tri) (n:Nat):Int:=match outS X t0 n with | some r=>r.2 | none=>0
end CGraph
end
end Go.Proofs.YtjhlkmnpfibgaaaDoor
