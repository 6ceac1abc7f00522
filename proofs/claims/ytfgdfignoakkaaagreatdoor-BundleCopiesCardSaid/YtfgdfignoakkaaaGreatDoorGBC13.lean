/- -/
import Derived.Test.YtfgdfignoakkaaaGreatDoorGBC12
open Nat (le_refl lt_of_succ_lt lt_succ_self)
set_option linter.unusedVariables false
set_option linter.unusedSimpArgs false
set_option maxRecDepth 100000
set_option maxHeartbeats 16000000
namespace Go.Proofs.YtfgdfignoakkaaaGreatDoor
namespace CConv
end CConv
namespace CSat
end CSat
namespace CShape
end CShape
namespace CTensor
end CTensor
namespace Plain
end Plain
open Go Go.ChangeShapes Go.WideShapes Go.ChangeAt Go.RowKit Go.Deep
section
namespace CKind
open Plain CSat CShape CTensor CConv
def Nd.Like (x y:Nd):Prop :=
 x.kd=y.kd∧x.na=y.na∧x.nb=y.nb∧x.K=y.K∧x.S=y.S∧x.P=y.P∧x.O=y.O∧x.Z=y.Z∧x.Y=y.Y∧x.lo=y.lo∧x.hi=y.hi∧x.m1=y.m1∧x.s1=y.s1∧x.z1=y.z1∧x.m2=y.m2∧x.s2=y.s2∧x.z2=y.z2
theorem Nd.like_refl (x:Nd):x.Like x:=⟨rfl,rfl,rfl,rfl,rfl,rfl,rfl,rfl,rfl,rfl,rfl,rfl,rfl,rfl,rfl,rfl,rfl⟩
theorem refNSame_yes (x y:Nd) (h:x.Like y) (w:World) {zs us:List Int} {B1 B2 B3 B4:Nat} (hw:x.nW=y.nW) (hz:x.nW=zs.length) (hl:x.nW≤1000000) (ha:Kit.Rd w B1 x.WA (zs.map (.int .i8))) (hb:Kit.Rd w B2 y.WA (zs.map (.int .i8))) (hB1:B1≤w.heap.size) (hB2:B2≤w.heap.size) (hu:x.nB=y.nB) (hv:x.nB=us.length) (hk:x.nB≤1000000) (hc:Kit.Rd w B3 x.BA (us.map (.int .i32))) (hd:Kit.Rd w B4 y.BA (us.map (.int .i32))) (hB3:B3≤w.heap.size) (hB4:B4≤w.heap.size) :
  Calls Tryz.prog 88 #[.agg x.val,.agg y.val] w fun e w'=>e=.returned (.bool true)∧Below w.heap.size w w':=by
 obtain⟨e0,e1,e2,e3,e4,e5,e6,e10,e11,e12,e13,q1,q2,q3,q4,q5,q6⟩:=h
 exact nsame_yes x y w (zs:=zs) (us:=us) (B1:=B1) (B2:=B2) (B3:=B3) (B4:=B4) e0 e1 e2 e3 e4 e5 e6 e10 e11 e12 e13 (by simp [q1,q2,q3]) (by simp [q4,q5,q6]) hw hz hl ha hb hB1 hB2 hu hv hk hc hd hB3 hB4
end CKind
end
end Go.Proofs.YtfgdfignoakkaaaGreatDoor
