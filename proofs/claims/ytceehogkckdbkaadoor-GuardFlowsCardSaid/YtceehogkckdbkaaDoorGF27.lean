/- -/
import Derived.Test.YtceehogkckdbkaaDoorGF25
open Go.Lib (hid)
open Nat (le_refl lt_of_succ_lt lt_succ_self)
set_option linter.unusedVariables false
set_option linter.unusedSimpArgs false
set_option maxRecDepth 100000
set_option maxHeartbeats 16000000
namespace Go.Proofs.YtceehogkckdbkaaDoor
namespace CConv
end CConv
namespace CFix
end CFix
namespace CGraph
end CGraph
namespace CKind
end CKind
namespace CSat
end CSat
namespace CShape
end CShape
namespace CSpan
end CSpan
namespace CTensor
end CTensor
open Go Go.ChangeShapes Go.WideShapes Go.ChangeAt Go.RowKit Go.Deep
section
namespace CGuard
open Plain CSat CFix CShape CTensor CConv CSpan CKind CGraph CJoin
theorem rgn_arg6 {w:World} (x:Nd) (l h l2 h2:Int) (bd:(-128≤l∧l≤127)∧(-128≤h∧h≤127)∧(-128≤l2∧l2≤127)∧(-128≤h2∧h2≤127)) (ok:NBd x.Z x.Y x.m1 x.z1 x.m2 x.z2 x.lo x.hi) (he:x.checkZ=0) (hk:x.kd=6) (hlh:l≤h) (hlh2:h2 < l2) :
  Calls Tryd.prog 12 #[.agg x.val,.agg #[.int .i8 l,.int .i8 h],.agg #[.int .i8 l2,.int .i8 h2]] w fun e w'=>e=.returned (.tuple #[.agg #[.int .i8 (0),.int .i8 (0)],.int .i64 (2)])∧Below w.heap.size w w':=by
 obtain⟨hg0,hw0⟩:=zaj.new w x l h l2 h2
 have HG:=hid hg0
 have HW:=hid hw0
 have hck:=zai x
 unfold zau at hck
 rw [he] at hck
 have dlh:decide (h < l)=false:=by simp;omega
 have dlh2:¬ h < l:=by omega
 have dk1:(x.kd == 1)=false:=by simp [hk]
 have dk2:(x.kd == 2)=false:=by simp [hk]
 have dk3:(x.kd == 3)=false:=by simp [hk]
 have dk6:(x.kd == 6)=true:=by simp [hk]
 have dk7:(x.kd == 7)=false:=by simp [hk]
 have dk8:(x.kd == 8)=false:=by simp [hk]
 have dlh3:decide (h2 < l2)=true:=by simp [hlh2]
 have CK:=hid hck
 clear hg0 hw0 hck he hk
 go_enter Tryd.func12,Tryd.ntmps12
 go_upto_region 1 with fail
 generalize ((((w.alloc (.cells x.val 29)).alloc (.cells #[.int .i8 l,.int .i8 h] 46)).alloc (.cells #[.int .i8 l2,.int .i8 h2] 46)).alloc (.cells #[.int .i8 0,.int .i8 0] 46))=W0 at HG HW ⊢
 have c0:=HG.out.1.at 0 _ rfl
 have c5:=HG.out.1.at 5 _ rfl
 have c7:=HG.out.1.at 7 _ rfl
 have c9:=HG.out.1.at 9 _ rfl
 have c10:=HG.out.1.at 10 _ rfl
 have c11:=HG.out.1.at 11 _ rfl
 have c12:=HG.out.1.at 12 _ rfl
 have c13:=HG.out.1.at 13 _ rfl
 have c17:=HG.out.1.at 17 _ rfl
 have c18:=HG.out.1.at 18 _ rfl
 obtain⟨a0,a1⟩:=HG.out.2.1
 obtain⟨b0,b1⟩:=HG.out.2.2.1
 go_wp2_with (refine zab rfl _ rfl w.heap.size x rfl HG.out.1 ?_)
 go_at_call 26
 refine (CK.out _).mono ?_
 rintro e w1 ⟨rfl,hb⟩
 replace HG:=hid (HG.out.below hb)
 replace HW:=hid (HW.out.trans (hb.mono HW.out.size))
 clear hb c0 c5 c7 c9 c10 c11 c12 c13 c17 c18 a0 a1 b0 b1
 have c0:=HG.out.1.at 0 _ rfl
 have c5:=HG.out.1.at 5 _ rfl
 have c7:=HG.out.1.at 7 _ rfl
 have c9:=HG.out.1.at 9 _ rfl
 have c10:=HG.out.1.at 10 _ rfl
 have c11:=HG.out.1.at 11 _ rfl
 have c12:=HG.out.1.at 12 _ rfl
 have c13:=HG.out.1.at 13 _ rfl
 have c17:=HG.out.1.at 17 _ rfl
 have c18:=HG.out.1.at 18 _ rfl
 obtain⟨a0,a1⟩:=HG.out.2.1
 obtain⟨b0,b1⟩:=HG.out.2.2.1
 obtain⟨⟨z0,z1⟩,z2,z3⟩:=HG.out.2.2.2.1
 go_wp2_with (refine zab rfl _ rfl w.heap.size x rfl HG.out.1 ?_)
 refine bodyPost_ret (Kit.zae rfl _ _ (w.heap.size+3) 0 [.int .i8 (0),.int .i8 (0)] _ rfl (Kit.zaf (by go_cell) (by go_cell)) Tryd.underlying46 rfl (by kernel_rfl)) rfl ?_
 exact⟨rfl,(HW.out.setCell (p:=⟨w.heap.size+3,0,none⟩) (by simp) _).setCell (p:=⟨w.heap.size+3,1,none⟩) (by simp) _⟩
theorem rgn_pad0 {w:World} (x:Nd) (l h l2 h2:Int) (bd:(-128≤l∧l≤127)∧(-128≤h∧h≤127)∧(-128≤l2∧l2≤127)∧(-128≤h2∧h2≤127)) (ok:NBd x.Z x.Y x.m1 x.z1 x.m2 x.z2 x.lo x.hi) (he:x.checkZ=0) (hk:x.kd=8) (hlh:l≤h) (hp:¬ 0 < x.P) :
  Calls Tryd.prog 12 #[.agg x.val,.agg #[.int .i8 l,.int .i8 h],.agg #[.int .i8 l2,.int .i8 h2]] w fun e w'=>e=.returned (.tuple #[.agg #[.int .i8 (l),.int .i8 (h)],.int .i64 (0)])∧Below w.heap.size w w':=by
 obtain⟨hg0,hw0⟩:=zaj.new w x l h l2 h2
 have HG:=hid hg0
 have HW:=hid hw0
 have hck:=zai x
 unfold zau at hck
 rw [he] at hck
 have dlh:decide (h < l)=false:=by simp;omega
 have dlh2:¬ h < l:=by omega
 have dk1:(x.kd == 1)=false:=by simp [hk]
 have dk2:(x.kd == 2)=false:=by simp [hk]
 have dk3:(x.kd == 3)=false:=by simp [hk]
 have dk6:(x.kd == 6)=false:=by simp [hk]
 have dk7:(x.kd == 7)=false:=by simp [hk]
 have dk8:(x.kd == 8)=true:=by simp [hk]
 have dp:decide (0 < x.P)=false:=by simp;omega
 have dp2:¬ x.P > 0:=hp
 have CK:=hid hck
 clear hg0 hw0 hck he hk
 go_enter Tryd.func12,Tryd.ntmps12
 go_upto_region 1 with fail
 generalize ((((w.alloc (.cells x.val 29)).alloc (.cells #[.int .i8 l,.int .i8 h] 46)).alloc (.cells #[.int .i8 l2,.int .i8 h2] 46)).alloc (.cells #[.int .i8 0,.int .i8 0] 46))=W0 at HG HW ⊢
 have c0:=HG.out.1.at 0 _ rfl
 have c5:=HG.out.1.at 5 _ rfl
 have c7:=HG.out.1.at 7 _ rfl
 have c9:=HG.out.1.at 9 _ rfl
 have c10:=HG.out.1.at 10 _ rfl
 have c11:=HG.out.1.at 11 _ rfl
 have c12:=HG.out.1.at 12 _ rfl
 have c13:=HG.out.1.at 13 _ rfl
 have c17:=HG.out.1.at 17 _ rfl
 have c18:=HG.out.1.at 18 _ rfl
 obtain⟨a0,a1⟩:=HG.out.2.1
 obtain⟨b0,b1⟩:=HG.out.2.2.1
 go_wp2_with (refine zab rfl _ rfl w.heap.size x rfl HG.out.1 ?_)
 go_at_call 26
 refine (CK.out _).mono ?_
 rintro e w1 ⟨rfl,hb⟩
 replace HG:=hid (HG.out.below hb)
 replace HW:=hid (HW.out.trans (hb.mono HW.out.size))
 clear hb c0 c5 c7 c9 c10 c11 c12 c13 c17 c18 a0 a1 b0 b1
 have c0:=HG.out.1.at 0 _ rfl
 have c5:=HG.out.1.at 5 _ rfl
 have c7:=HG.out.1.at 7 _ rfl
 have c9:=HG.out.1.at 9 _ rfl
 have c10:=HG.out.1.at 10 _ rfl
 have c11:=HG.out.1.at 11 _ rfl
 have c12:=HG.out.1.at 12 _ rfl
 have c13:=HG.out.1.at 13 _ rfl
 have c17:=HG.out.1.at 17 _ rfl
 have c18:=HG.out.1.at 18 _ rfl
 obtain⟨a0,a1⟩:=HG.out.2.1
 obtain⟨b0,b1⟩:=HG.out.2.2.1
 obtain⟨⟨z0,z1⟩,z2,z3⟩:=HG.out.2.2.2.1
 go_wp2_with (refine zab rfl _ rfl w.heap.size x rfl HG.out.1 ?_)
 refine bodyPost_ret (Kit.zae rfl _ _ (w.heap.size+3) 0 [.int .i8 (l),.int .i8 (h)] _ rfl (Kit.zaf (by go_cell) (by go_cell)) Tryd.underlying46 rfl (by kernel_rfl)) rfl ?_
 exact⟨rfl,(HW.out.setCell (p:=⟨w.heap.size+3,0,none⟩) (by simp) _).setCell (p:=⟨w.heap.size+3,1,none⟩) (by simp) _⟩
theorem rgn_pad1 {w:World} (x:Nd) (l h l2 h2:Int) (bd:(-128≤l∧l≤127)∧(-128≤h∧h≤127)∧(-128≤l2∧l2≤127)∧(-128≤h2∧h2≤127)) (ok:NBd x.Z x.Y x.m1 x.z1 x.m2 x.z2 x.lo x.hi) (he:x.checkZ=0) (hk:x.kd=8) (hlh:l≤h) (hp:0 < x.P) :
  Calls Tryd.prog 12 #[.agg x.val,.agg #[.int .i8 l,.int .i8 h],.agg #[.int .i8 l2,.int .i8 h2]] w fun e w'=>e=.returned (.tuple #[.agg #[.int .i8 (min l x.Z),.int .i8 (max h x.Z)],.int .i64 (0)])∧Below w.heap.size w w':=by
 obtain⟨hg0,hw0⟩:=zaj.new w x l h l2 h2
 have HG:=hid hg0
 have HW:=hid hw0
 have hck:=zai x
 unfold zau at hck
 rw [he] at hck
 have dlh:decide (h < l)=false:=by simp;omega
 have dlh2:¬ h < l:=by omega
 have dk1:(x.kd == 1)=false:=by simp [hk]
 have dk2:(x.kd == 2)=false:=by simp [hk]
 have dk3:(x.kd == 3)=false:=by simp [hk]
 have dk6:(x.kd == 6)=false:=by simp [hk]
 have dk7:(x.kd == 7)=false:=by simp [hk]
 have dk8:(x.kd == 8)=true:=by simp [hk]
 have dp:decide (0 < x.P)=true:=by simp [hp]
 have m1:=min_iteN l x.Z
 have m2:=max_iteN h x.Z
 have CK:=hid hck
 clear hg0 hw0 hck he hk
 go_enter Tryd.func12,Tryd.ntmps12
 go_upto_region 1 with fail
 generalize ((((w.alloc (.cells x.val 29)).alloc (.cells #[.int .i8 l,.int .i8 h] 46)).alloc (.cells #[.int .i8 l2,.int .i8 h2] 46)).alloc (.cells #[.int .i8 0,.int .i8 0] 46))=W0 at HG HW ⊢
 have c0:=HG.out.1.at 0 _ rfl
 have c5:=HG.out.1.at 5 _ rfl
 have c7:=HG.out.1.at 7 _ rfl
 have c9:=HG.out.1.at 9 _ rfl
 have c10:=HG.out.1.at 10 _ rfl
 have c11:=HG.out.1.at 11 _ rfl
 have c12:=HG.out.1.at 12 _ rfl
 have c13:=HG.out.1.at 13 _ rfl
 have c17:=HG.out.1.at 17 _ rfl
 have c18:=HG.out.1.at 18 _ rfl
 obtain⟨a0,a1⟩:=HG.out.2.1
 obtain⟨b0,b1⟩:=HG.out.2.2.1
 go_wp2_with (refine zab rfl _ rfl w.heap.size x rfl HG.out.1 ?_)
 go_at_call 26
 refine (CK.out _).mono ?_
 rintro e w1 ⟨rfl,hb⟩
 replace HG:=hid (HG.out.below hb)
 replace HW:=hid (HW.out.trans (hb.mono HW.out.size))
 clear hb c0 c5 c7 c9 c10 c11 c12 c13 c17 c18 a0 a1 b0 b1
 have c0:=HG.out.1.at 0 _ rfl
 have c5:=HG.out.1.at 5 _ rfl
 have c7:=HG.out.1.at 7 _ rfl
 have c9:=HG.out.1.at 9 _ rfl
 have c10:=HG.out.1.at 10 _ rfl
 have c11:=HG.out.1.at 11 _ rfl
 have c12:=HG.out.1.at 12 _ rfl
 have c13:=HG.out.1.at 13 _ rfl
 have c17:=HG.out.1.at 17 _ rfl
 have c18:=HG.out.1.at 18 _ rfl
 obtain⟨a0,a1⟩:=HG.out.2.1
 obtain⟨b0,b1⟩:=HG.out.2.2.1
 obtain⟨⟨z0,z1⟩,z2,z3⟩:=HG.out.2.2.2.1
 go_wp2_with (refine zab rfl _ rfl w.heap.size x rfl HG.out.1 ?_)
 refine bodyPost_ret (Kit.zae rfl _ _ (w.heap.size+3) 0 [.int .i8 (min l x.Z),.int .i8 (max h x.Z)] _ rfl (Kit.zaf (by go_cell) (by go_cell)) Tryd.underlying46 rfl (by kernel_rfl)) rfl ?_
 exact⟨rfl,(HW.out.setCell (p:=⟨w.heap.size+3,0,none⟩) (by simp) _).setCell (p:=⟨w.heap.size+3,1,none⟩) (by simp) _⟩
end CGuard
end
section
namespace CKind
open Plain CSat CShape CTensor CConv
theorem node_types:Tryd.prog.cellTypes Tryd.prog.depth 29=some [3,3,3,3,3,3,3,23,23,24,25,21,3,23,21,3,23,23,23]:=by kernel_rfl
theorem cell_int {P:Program} {w:World} {r:Reach} {b0:Nat} {t u:TypeId} {fs:Array Field} {cs:Array Value} {ts:List TypeId} (ht:P.underlying t=some (.struct fs)) (hts:P.cellTypes P.depth t=some ts) (hv:Value.okWide P w r b0 t (.agg cs))
  (i:Nat) (v:Value) (hi:cs[i]?=some v) (hu:ts[i % ts.length]?=some u) (k:IntKind) (hk:P.underlying u=some (.int k)):∃ n,v=.int k n∧k.min≤n∧n≤k.max:=by
 simp only [Value.okWide,ht] at hv
 obtain⟨cs',e,_,ts',hts',_,hr⟩:=hv
 cases e
 rw [hts] at hts'
 cases hts'
 obtain⟨u',hu',hc⟩:=hr i v hi
 rw [hu] at hu'
 cases hu'
 unfold Cell.okWide Cell.ok at hc
 rw [hk] at hc
 cases v <;> simp at hc
 obtain⟨rfl,h⟩:=hc
 exact⟨_,rfl,h.1,h.2⟩
def NdBd (kd na nb Y m1 s1 z1 m2 s2 z2 lo hi:Int):Prop:=(-9223372036854775808≤kd∧kd≤9223372036854775807)∧(-9223372036854775808≤na∧na≤9223372036854775807)∧(-9223372036854775808≤nb∧nb≤9223372036854775807)∧(-128≤Y∧Y≤127)∧(-2147483648≤m1∧m1≤2147483647)∧(-9223372036854775808≤s1∧s1≤9223372036854775807)∧(-128≤z1∧z1≤127)∧(-2147483648≤m2∧m2≤2147483647)∧(-9223372036854775808≤s2∧s2≤9223372036854775807)∧(-128≤z2∧z2≤127)∧(-128≤lo∧lo≤127)∧(-128≤hi∧hi≤127)
theorem nd_cells {w:World} {r:Reach} {b0:Nat} {a0 a1 a2 a3 a4 a5 a6 a7 a8 a9 a10 a11 a12 a13 a14 a15 a16 a17 a18:Value} (hv:Value.okWide Tryd.prog w r b0 29 (.agg #[a0,a1,a2,a3,a4,a5,a6,a7,a8,a9,a10,a11,a12,a13,a14,a15,a16,a17,a18])) :
  ∃ kd na nb Y m1 s1 z1 m2 s2 z2 lo hi:Int,(a0=.int .i64 kd∧a1=.int .i64 na∧a2=.int .i64 nb∧a8=.int .i8 Y∧a11=.int .i32 m1∧a12=.int .i64 s1∧a13=.int .i8 z1∧a14=.int .i32 m2∧a15=.int .i64 s2∧a16=.int .i8 z2∧a17=.int .i8 lo∧a18=.int .i8 hi)∧NdBd kd na nb Y m1 s1 z1 m2 s2 z2 lo hi:=by
 have h:=fun (i:Nat) (v:Value) hi u hu k hk=>cell_int (u:=u) Tryd.underlying29 node_types hv i v hi hu k hk
 obtain⟨kd,e0,l0,u0⟩:=h 0 a0 rfl _ rfl .i64 Tryd.underlying3
 obtain⟨na,e1,l1,u1⟩:=h 1 a1 rfl _ rfl .i64 Tryd.underlying3
 obtain⟨nb,e2,l2,u2⟩:=h 2 a2 rfl _ rfl .i64 Tryd.underlying3
 obtain⟨Y,e8,l8,u8⟩:=h 8 a8 rfl _ rfl .i8 Tryd.underlying23
 obtain⟨m1,e11,l11,u11⟩:=h 11 a11 rfl _ rfl .i32 Tryd.underlying21
 obtain⟨s1,e12,l12,u12⟩:=h 12 a12 rfl _ rfl .i64 Tryd.underlying3
 obtain⟨z1,e13,l13,u13⟩:=h 13 a13 rfl _ rfl .i8 Tryd.underlying23
 obtain⟨m2,e14,l14,u14⟩:=h 14 a14 rfl _ rfl .i32 Tryd.underlying21
 obtain⟨s2,e15,l15,u15⟩:=h 15 a15 rfl _ rfl .i64 Tryd.underlying3
 obtain⟨z2,e16,l16,u16⟩:=h 16 a16 rfl _ rfl .i8 Tryd.underlying23
 obtain⟨lo,e17,l17,u17⟩:=h 17 a17 rfl _ rfl .i8 Tryd.underlying23
 obtain⟨hi,e18,l18,u18⟩:=h 18 a18 rfl _ rfl .i8 Tryd.underlying23
 clear h hv
 simp only [IntKind.min,IntKind.max,IntKind.signed,IntKind.bits] at *
 refine⟨kd,na,nb,Y,m1,s1,z1,m2,s2,z2,lo,hi,⟨e0,e1,e2,e8,e11,e12,e13,e14,e15,e16,e17,e18⟩,?_⟩
 unfold NdBd
 simp at *
 omega
end CKind
end
end Go.Proofs.YtceehogkckdbkaaDoor
