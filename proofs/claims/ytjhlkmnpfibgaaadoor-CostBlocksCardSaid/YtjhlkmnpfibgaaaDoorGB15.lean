/- -/
import Derived.Test.YtjhlkmnpfibgaaaDoorGB12
import Derived.Test.YtjhlkmnpfibgaaaDoorGB13
import Derived.Test.YtjhlkmnpfibgaaaDoorGB14
open Nat (le_refl lt_of_succ_lt lt_succ_self)
set_option linter.unusedVariables false
set_option linter.unusedSimpArgs false
set_option maxRecDepth 100000
set_option maxHeartbeats 16000000
namespace Go.Proofs.YtjhlkmnpfibgaaaDoor
namespace CConv
end CConv
namespace CSat
end CSat
namespace CTensor
end CTensor
open Go Go.ChangeShapes Go.WideShapes Go.ChangeAt Go.RowKit Go.Deep
section
namespace CKind
open Plain CSat CShape CTensor CConv
theorem refMore_to (x:Nd):MoreIs x:=by
 by_cases h0:x.kd < 1∨9 < x.kd
 ·exact more_o x h0
 ·have:x.kd=1∨x.kd=2∨x.kd=3∨x.kd=4∨x.kd=5∨x.kd=6∨x.kd=7∨x.kd=8∨x.kd=9:=by omega
  rcases this with h | h | h | h | h | h | h | h | h
  ·exact more_1 x h
  ·exact more_2 x h
  ·exact more_3 x h
  ·exact more_4 x h
  ·exact more_5 x h
  ·exact more_6 x h
  ·exact more_7 x h
  ·exact more_8 x h
  ·exact more_9 x h
end CKind
end
section
namespace CFix
open Go Go.ChangeShapes Go.WideShapes Go.ChangeAt Go.RowKit
open Plain CSat
theorem refRight_yes (m s z:Int) (h:zbl m s=true) (w:World) :
  Calls Tryd.prog 52 #[.agg #[.int .i32 m,.int .i64 s,.int .i8 z]] w fun e w'=>e=.returned (.bool true)∧Below w.heap.size w w':=by
 obtain⟨h1,h2,h3⟩:0 < m∧0≤s∧s≤62:=by simpa [zbl] using h
 clear h
 go_enter Tryd.func52,Tryd.ntmps52
 go_wp2
 go_ret
 exact⟨rfl,(Below.refl _ _).alloc (le_refl _) _⟩
theorem refRight_no (m s z:Int) (h:zbl m s=false) (w:World) :
  Calls Tryd.prog 52 #[.agg #[.int .i32 m,.int .i64 s,.int .i8 z]] w fun e w'=>e=.returned (.bool false)∧Below w.heap.size w w':=by
 have h0:¬ (0 < m∧0≤s∧s≤62):=by simpa [zbl] using h
 clear h
 have h1:(decide (0 < m)=false)∨(0 < m∧decide (0≤s)=false)∨(0 < m∧0≤s∧decide (s≤62)=false):=by simp;omega
 clear h0
 rcases h1 with h1 | ⟨h1,h2⟩ | ⟨h1,h2,h3⟩
 all_goals
  go_enter Tryd.func52,Tryd.ntmps52
  go_wp2
  go_ret
  exact⟨rfl,(Below.refl _ _).alloc (le_refl _) _⟩
end CFix
end
section
namespace CConv
open Go Go.ChangeShapes Go.WideShapes Go.ChangeAt Go.RowKit
open Plain CSat CShape CTensor
def zbi (B:Nat) (H W C:Int) (wd:World):Prop :=
 wd.cell? ⟨B,0,none⟩=some (.int .i64 H)∧wd.cell? ⟨B,1,none⟩=some (.int .i64 W)∧wd.cell? ⟨B,2,none⟩=some (.int .i64 C)
theorem zbi.below {B B':Nat} {H W C:Int} {w w':World} (h:zbi B H W C w) (hB:B < B') (hb:Below B' w w'):zbi B H W C w' :=
 ⟨(hb.cell (p:=⟨B,0,none⟩) hB).trans h.1,(hb.cell (p:=⟨B,1,none⟩) hB).trans h.2.1,(hb.cell (p:=⟨B,2,none⟩) hB).trans h.2.2⟩
theorem zar (H W C:Int) (T:TypeId) (w:World):zbi w.heap.size H W C (w.alloc (.cells #[.int .i64 H,.int .i64 W,.int .i64 C] T)):=⟨Kit.zam _ _ _ _,Kit.zam _ _ _ _,Kit.zam _ _ _ _⟩
theorem convE_ok {H W C K S P O:Int} {nW nB:Nat} (h:convE H W C K S P O nW nB=0):zaq H W C K S P O=0∧(nW:Int)=O * K * K * C∧nW≤16384∧(nB:Int)=O:=by
 unfold convE at h
 by_cases h1:zaq H W C K S P O≠0
 ·rw [if_pos h1] at h;exact absurd h h1
 ·rw [if_neg h1] at h
  by_cases h2:(nW:Int)=O * K * K * C∧nW≤16384∧(nB:Int)=O
  ·exact⟨by omega,h2⟩
  ·rw [if_neg h2] at h;omega
end CConv
end
section
namespace CTensor
open Go Go.ChangeShapes Go.WideShapes Go.ChangeAt Go.RowKit
open Plain CSat CShape
theorem eqShape (a b c x y z:Int) (w:World):(Op.equalIn 10000 30 (.agg #[.int .i64 a,.int .i64 b,.int .i64 c]) (.agg #[.int .i64 x,.int .i64 y,.int .i64 z])).run Tryd.prog w=.ok (a == x && (b == y && c == z)) w:=by
 have u3:=Tryd.underlying3
 have a3:=Tryd.isAgg3
 have z3:=Tryd.sizeOf3
 have hS:Tryd.prog.underlying 30=some (.struct (Tryd.prog.fieldsOf 30)):=by kernel_rfl
 rw [show (10000:Nat)=9999+1 from rfl,run_equalIn_agg w 9999 30 _ _ hS Tryd.stoodInHeld30]
 simp only [Program.fieldsOf,Tryd.underlying30]
 go_simp
 by_cases h1:a=x <;> by_cases h2:b=y <;> by_cases h3:c=z <;> simp [h1,h2,h3]
end CTensor
end
section
namespace CKind
open Plain CSat CShape CTensor CConv
def Nd.zero:Nd:=⟨0,0,0,0,0,0,0,0,0,none,0,0,none,0,0,0,0,0,0,0,0,0,0⟩
def Nd.ownK (x:Nd) (k:Int):Nd :=
 ⟨k,x.na,if k == 6 then x.nb else 0,if zaf k then x.K else 0,if zaf k then x.S else 0,if zaf k || k == 8 then x.P else 0,if k == 1 || k == 3 then x.O else 0,if zac k || k == 8 then x.Z else 0,if k == 6 then x.Y else 0,
  if sumsB k then x.WA else none,if sumsB k then x.nW else 0,if sumsB k then x.cW else 0,if sumsB k then x.BA else none,if sumsB k then x.nB else 0,if sumsB k then x.cB else 0,
  if zac k then x.m1 else 0,if zac k then x.s1 else 0,if zac k then x.z1 else 0,if k == 6 then x.m2 else 0,if k == 6 then x.s2 else 0,0,if zac k then x.lo else 0,if zac k then x.hi else 0⟩
end CKind
end
end Go.Proofs.YtjhlkmnpfibgaaaDoor
