/- -/
import Derived.Test.YtfgdfignoakkaaaGreatDoorGBC11
open Go.Lib (hid)
open Nat (le_refl lt_of_succ_lt lt_succ_self)
set_option linter.unusedVariables false
set_option linter.unusedSimpArgs false
set_option maxRecDepth 100000
set_option maxHeartbeats 16000000
namespace Go.Proofs.YtfgdfignoakkaaaGreatDoor
namespace CConv
end CConv
namespace CSat
end CSat
namespace CShape
end CShape
namespace CTensor
end CTensor
namespace Plain
end Plain
open Go Go.ChangeShapes Go.WideShapes Go.ChangeAt Go.RowKit Go.Deep
section
namespace CKind
open Plain CSat CShape CTensor CConv
theorem nsame_yes (x y:Nd) (w:World) {zs us:List Int} {B1 B2 B3 B4:Nat} (e0:x.kd=y.kd) (e1:x.na=y.na) (e2:x.nb=y.nb) (e3:x.K=y.K) (e4:x.S=y.S) (e5:x.P=y.P) (e6:x.O=y.O) (e10:x.Z=y.Z) (e11:x.Y=y.Y) (e12:x.lo=y.lo) (e13:x.hi=y.hi) (eq0:(x.m1 == y.m1 && (x.s1 == y.s1 && x.z1 == y.z1))=true) (eq1:(x.m2 == y.m2 && (x.s2 == y.s2 && x.z2 == y.z2))=true) (hw:x.nW=y.nW) (hz:x.nW=zs.length) (hl:x.nW≤1000000) (ha:Kit.Rd w B1 x.WA (zs.map (.int .i8))) (hb:Kit.Rd w B2 y.WA (zs.map (.int .i8))) (hB1:B1≤w.heap.size) (hB2:B2≤w.heap.size) (hu:x.nB=y.nB) (hv:x.nB=us.length) (hk:x.nB≤1000000) (hc:Kit.Rd w B3 x.BA (us.map (.int .i32))) (hd:Kit.Rd w B4 y.BA (us.map (.int .i32))) (hB3:B3≤w.heap.size) (hB4:B4≤w.heap.size) :
  Calls Tryz.prog 88 #[.agg x.val,.agg y.val] w fun e w'=>e=.returned (.bool true)∧Below w.heap.size w w':=by
 have b0:(x.kd != y.kd)=false:=by simpa using e0
 have c0:(x.kd == y.kd)=true:=by simpa using e0
 have b1:(x.na != y.na)=false:=by simpa using e1
 have c1:(x.na == y.na)=true:=by simpa using e1
 have b2:(x.nb != y.nb)=false:=by simpa using e2
 have c2:(x.nb == y.nb)=true:=by simpa using e2
 have b3:(x.K != y.K)=false:=by simpa using e3
 have c3:(x.K == y.K)=true:=by simpa using e3
 have b4:(x.S != y.S)=false:=by simpa using e4
 have c4:(x.S == y.S)=true:=by simpa using e4
 have b5:(x.P != y.P)=false:=by simpa using e5
 have c5:(x.P == y.P)=true:=by simpa using e5
 have b6:(x.O != y.O)=false:=by simpa using e6
 have c6:(x.O == y.O)=true:=by simpa using e6
 have b10:(x.Z != y.Z)=false:=by simpa using e10
 have c10:(x.Z == y.Z)=true:=by simpa using e10
 have b11:(x.Y != y.Y)=false:=by simpa using e11
 have c11:(x.Y == y.Y)=true:=by simpa using e11
 have b12:(x.lo != y.lo)=false:=by simpa using e12
 have c12:(x.lo == y.lo)=true:=by simpa using e12
 have b13:(x.hi != y.hi)=false:=by simpa using e13
 have c13:(x.hi == y.hi)=true:=by simpa using e13
 have HQ0:=eqQuantK x.m1 x.s1 x.z1 y.m1 y.s1 y.z1
 rw [eq0] at HQ0
 have hgq0:=Tryz.eqGuardType52
 have HQ1:=eqQuantK x.m2 x.s2 x.z2 y.m2 y.s2 y.z2
 rw [eq1] at HQ1
 have hgq1:=Tryz.eqGuardType52
 clear e0 e1 e2 e3 e4 e5 e6 e10 e11 e12 e13 eq0 eq1
 have HV:=hid hv
 have HK:=hid hk
 have HC:=hid hc
 have HD:=hid hd
 have HB3:=hid hB3
 have HB4:=hid hB4
 clear hv hk hc hd hB3 hB4
 have HZ:=hid hz
 have HL:=hid hl
 have HA:=hid ha
 have HB:=hid hb
 have HB1:=hid hB1
 have HB2:=hid hB2
 obtain⟨kd,na,nb,K,S,P,O,Z,Y,WA,nW,cW,BA,nB,cB,m1,s1,z1,m2,s2,z2,lo,hi⟩:=x
 obtain⟨kd',na',nb',K',S',P',O',Z',Y',WA',nW',cW',BA',nB',cB',m1',s1',z1',m2',s2',z2',lo',hi'⟩:=y
 simp only at *
 subst hw
 subst hu
 clear hz hl ha hb hB1 hB2
 unfold Nd.val
 go_enter Tryz.func88,Tryz.ntmps88
 go_wp2_with (first
  | (go_at_call 86;(with_reducible refine (ksame_yes _ _ zs _ _ _ HZ.out HL.out _ (HA.out.below ((((Below.refl _ _).alloc (le_refl _) _).alloc (by simp) _).mono HB1.out)) (HB.out.below ((((Below.refl _ _).alloc (le_refl _) _).alloc (by simp) _).mono HB2.out))).mono ?_);rintro e1 w1 ⟨rfl,m1,rfl⟩)
  | (go_at_call 87;(with_reducible refine (ksame32_yes _ _ us _ _ _ HV.out HK.out _ ((HC.out.below ((((Below.refl _ _).alloc (le_refl _) _).alloc (by simp) _).mono HB3.out)).drewN _) ((HD.out.below ((((Below.refl _ _).alloc (le_refl _) _).alloc (by simp) _).mono HB4.out)).drewN _)).mono ?_);rintro e2 w2 ⟨rfl,m2,rfl⟩))
 go_ret
 exact⟨rfl,Kit.below_drewN (((Below.refl _ _).alloc (le_refl _) _).alloc (by simp) _) _⟩
end CKind
end
end Go.Proofs.YtfgdfignoakkaaaGreatDoor
