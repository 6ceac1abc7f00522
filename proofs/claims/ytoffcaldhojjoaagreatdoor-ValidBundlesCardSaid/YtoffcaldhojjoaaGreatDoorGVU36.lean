/- -/
import Derived.Test.YtoffcaldhojjoaaGreatDoorGVU33
import Derived.Test.YtoffcaldhojjoaaGreatDoorGVU34
import Derived.Test.YtoffcaldhojjoaaGreatDoorGVU35
open Go.Lib (hid)
open Nat (le_refl lt_of_succ_lt lt_succ_self)
set_option linter.unusedVariables false
set_option linter.unusedSimpArgs false
set_option maxRecDepth 100000
set_option maxHeartbeats 16000000
namespace Go.Proofs.YtoffcaldhojjoaaGreatDoor
namespace CConv
end CConv
namespace CFix
end CFix
namespace CGraph
end CGraph
namespace CKind
end CKind
namespace CSat
end CSat
namespace CSpan
end CSpan
namespace CTensor
end CTensor
open Go Go.ChangeShapes Go.WideShapes Go.ChangeAt Go.RowKit Go.Deep
section
namespace CGuard
open Plain CSat CFix CShape CTensor CConv CSpan CKind CGraph CJoin
theorem rgn_sum1n {w:World} (x:Nd) (l h l2 h2:Int) (bd:(-128≤l∧l≤127)∧(-128≤h∧h≤127)∧(-128≤l2∧l2≤127)∧(-128≤h2∧h2≤127)) (ok:NBd x.Z x.Y x.m1 x.z1 x.m2 x.z2 x.lo x.hi) (ws bs:List Int) (hL:NdL w w.heap.size x ws bs) (hW2:x.nW≤20000) (hB2:x.nB≤20000) (he:x.checkZ=0) (hk:x.kd=1) (hlh:l≤h) (hs:¬ (1≤x.nB∧x.nW % x.nB=0)) :
  Calls Tryz.prog 30 #[.agg x.val,.agg #[.int .i8 l,.int .i8 h],.agg #[.int .i8 l2,.int .i8 h2]] w fun e w'=>e=.returned (.tuple #[.agg #[.int .i8 (min (heldZ (c32 0) x.m1 x.s1 x.z1 x.lo x.hi) (heldZ (c32 0) x.m1 x.s1 x.z1 x.lo x.hi)),.int .i8 (max (heldZ (c32 0) x.m1 x.s1 x.z1 x.lo x.hi) (heldZ (c32 0) x.m1 x.s1 x.z1 x.lo x.hi))],.int .i64 (0)])∧Below w.heap.size w w':=by
 obtain⟨hg0,hw0⟩:=zau.new w x l h l2 h2
 have HG:=hid hg0
 have HW:=hid hw0
 have hck:=zar x
 unfold zbh at hck
 rw [he] at hck
 have dlh:decide (h < l)=false:=by simp;omega
 have dlh2:¬ h < l:=by omega
 have dk1:(x.kd == 1)=true:=by simp [hk]
 have dk2:(x.kd == 2)=false:=by simp [hk]
 have dk3:(x.kd == 3)=false:=by simp [hk]
 have dk6:(x.kd == 6)=false:=by simp [hk]
 have dk7:(x.kd == 7)=false:=by simp [hk]
 have dk8:(x.kd == 8)=false:=by simp [hk]
 have CS:=hid (fun w:World=>zbc x.WA x.BA x.nW x.cW x.nB x.cB (by omega) (by omega) w)
 rw [show decide (1≤x.nB∧x.nW % x.nB=0)=false by simp only [hs,decide_false]] at CS
 have CA:=hid (fun w:World=>zcg (0) (0) x.m1 x.s1 x.z1 x.lo x.hi ok.2.2.1.1 ok.2.2.1.2 ok.2.2.2.1.1 ok.2.2.2.1.2 ok.2.2.2.2.2.2.1.1 ok.2.2.2.2.2.2.1.2 ok.2.2.2.2.2.2.2.1 ok.2.2.2.2.2.2.2.2 w)
 generalize min (heldZ (c32 (0)) x.m1 x.s1 x.z1 x.lo x.hi) (heldZ (c32 (0)) x.m1 x.s1 x.z1 x.lo x.hi)=ra at CA ⊢
 generalize max (heldZ (c32 (0)) x.m1 x.s1 x.z1 x.lo x.hi) (heldZ (c32 (0)) x.m1 x.s1 x.z1 x.lo x.hi)=rb at CA ⊢
 have CK:=hid hck
 clear hg0 hw0 hck he hk hs
 go_enter Tryz.func30,Tryz.ntmps30
 go_upto_region 1 with fail
 generalize ((((w.alloc (.cells x.val 61)).alloc (.cells #[.int .i8 l,.int .i8 h] 70)).alloc (.cells #[.int .i8 l2,.int .i8 h2] 70)).alloc (.cells #[.int .i8 0,.int .i8 0] 70))=W0 at HG HW ⊢
 have c0:=HG.out.1.at 0 _ rfl
 have c5:=HG.out.1.at 5 _ rfl
 have c7:=HG.out.1.at 7 _ rfl
 have c9:=HG.out.1.at 9 _ rfl
 have c10:=HG.out.1.at 10 _ rfl
 have c11:=HG.out.1.at 11 _ rfl
 have c12:=HG.out.1.at 12 _ rfl
 have c13:=HG.out.1.at 13 _ rfl
 have c17:=HG.out.1.at 17 _ rfl
 have c18:=HG.out.1.at 18 _ rfl
 obtain⟨a0,a1⟩:=HG.out.2.1
 obtain⟨b0,b1⟩:=HG.out.2.2.1
 go_wp2_with (refine zac rfl _ rfl w.heap.size x rfl HG.out.1 ?_)
 go_at_call 22
 refine (CK.out _).mono ?_
 rintro e w1 ⟨rfl,hb⟩
 replace HG:=hid (HG.out.below hb)
 replace HW:=hid (HW.out.trans (hb.mono HW.out.size))
 clear hb c0 c5 c7 c9 c10 c11 c12 c13 c17 c18 a0 a1 b0 b1
 have c0:=HG.out.1.at 0 _ rfl
 have c5:=HG.out.1.at 5 _ rfl
 have c7:=HG.out.1.at 7 _ rfl
 have c9:=HG.out.1.at 9 _ rfl
 have c10:=HG.out.1.at 10 _ rfl
 have c11:=HG.out.1.at 11 _ rfl
 have c12:=HG.out.1.at 12 _ rfl
 have c13:=HG.out.1.at 13 _ rfl
 have c17:=HG.out.1.at 17 _ rfl
 have c18:=HG.out.1.at 18 _ rfl
 obtain⟨a0,a1⟩:=HG.out.2.1
 obtain⟨b0,b1⟩:=HG.out.2.2.1
 go_wp2_with (refine zac rfl _ rfl w.heap.size x rfl HG.out.1 ?_)
 go_at_call 31
 refine (CS.out _).mono ?_
 rintro e w2 ⟨rfl,hw1⟩
 have hb:=zch hw1
 clear hw1
 replace HG:=hid (HG.out.below hb)
 replace HW:=hid (HW.out.trans (hb.mono HW.out.size))
 clear hb c0 c5 c7 c9 c10 c11 c12 c13 c17 c18 a0 a1 b0 b1
 have c0:=HG.out.1.at 0 _ rfl
 have c5:=HG.out.1.at 5 _ rfl
 have c7:=HG.out.1.at 7 _ rfl
 have c9:=HG.out.1.at 9 _ rfl
 have c10:=HG.out.1.at 10 _ rfl
 have c11:=HG.out.1.at 11 _ rfl
 have c12:=HG.out.1.at 12 _ rfl
 have c13:=HG.out.1.at 13 _ rfl
 have c17:=HG.out.1.at 17 _ rfl
 have c18:=HG.out.1.at 18 _ rfl
 obtain⟨a0,a1⟩:=HG.out.2.1
 obtain⟨b0,b1⟩:=HG.out.2.2.1
 go_wp2_with (refine zac rfl _ rfl w.heap.size x rfl HG.out.1 ?_)
 go_at_call 50
 refine (CA.out _).mono ?_
 rintro e w3 ⟨rfl,hb⟩
 replace HG:=hid (HG.out.below hb)
 replace HW:=hid (HW.out.trans (hb.mono HW.out.size))
 clear hb c0 c5 c7 c9 c10 c11 c12 c13 c17 c18 a0 a1 b0 b1
 have c0:=HG.out.1.at 0 _ rfl
 have c5:=HG.out.1.at 5 _ rfl
 have c7:=HG.out.1.at 7 _ rfl
 have c9:=HG.out.1.at 9 _ rfl
 have c10:=HG.out.1.at 10 _ rfl
 have c11:=HG.out.1.at 11 _ rfl
 have c12:=HG.out.1.at 12 _ rfl
 have c13:=HG.out.1.at 13 _ rfl
 have c17:=HG.out.1.at 17 _ rfl
 have c18:=HG.out.1.at 18 _ rfl
 obtain⟨a0,a1⟩:=HG.out.2.1
 obtain⟨b0,b1⟩:=HG.out.2.2.1
 obtain⟨⟨z0,z1⟩,z2,z3⟩:=HG.out.2.2.2.1
 go_wp2_with (refine zac rfl _ rfl w.heap.size x rfl HG.out.1 ?_)
 refine bodyPost_ret (Kit.zaa rfl _ _ (w.heap.size+3) 0 [.int .i8 (ra),.int .i8 (rb)] _ rfl (Kit.zaq (by go_cell) (by go_cell)) Tryz.underlying70 rfl (by kernel_rfl)) rfl ?_
 exact⟨rfl,(HW.out.setCell (p:=⟨w.heap.size+3,0,none⟩) (by simp) _).setCell (p:=⟨w.heap.size+3,1,none⟩) (by simp) _⟩
theorem rgn_sum1o {w:World} (x:Nd) (l h l2 h2:Int) (bd:(-128≤l∧l≤127)∧(-128≤h∧h≤127)∧(-128≤l2∧l2≤127)∧(-128≤h2∧h2≤127)) (ok:NBd x.Z x.Y x.m1 x.z1 x.m2 x.z2 x.lo x.hi) (ws bs:List Int) (hL:NdL w w.heap.size x ws bs) (hW2:x.nW≤20000) (hB2:x.nB≤20000) (he:x.checkZ=0) (hk:x.kd=1) (hlh:l≤h) (hs:1≤x.nB∧x.nW % x.nB=0) (hf:fitB (lsW ws bs x.nW x.nB l h x.Z (decide (0 < x.P))) (grW ws bs x.nW x.nB l h x.Z (decide (0 < x.P)))=false) :
  Calls Tryz.prog 30 #[.agg x.val,.agg #[.int .i8 l,.int .i8 h],.agg #[.int .i8 l2,.int .i8 h2]] w fun e w'=>e=.returned (.tuple #[.agg #[.int .i8 (0),.int .i8 (0)],.int .i64 (10)])∧Below w.heap.size w w':=by
 obtain⟨hg0,hw0⟩:=zau.new w x l h l2 h2
 have HG:=hid hg0
 have HW:=hid hw0
 have hck:=zar x
 unfold zbh at hck
 rw [he] at hck
 have dlh:decide (h < l)=false:=by simp;omega
 have dlh2:¬ h < l:=by omega
 have dk1:(x.kd == 1)=true:=by simp [hk]
 have dk2:(x.kd == 2)=false:=by simp [hk]
 have dk3:(x.kd == 3)=false:=by simp [hk]
 have dk6:(x.kd == 6)=false:=by simp [hk]
 have dk7:(x.kd == 7)=false:=by simp [hk]
 have dk8:(x.kd == 8)=false:=by simp [hk]
 have CS:=hid (fun w:World=>zbc x.WA x.BA x.nW x.cW x.nB x.cB (by omega) (by omega) w)
 rw [show decide (1≤x.nB∧x.nW % x.nB=0)=true by simp only [hs,and_self,decide_true]] at CS
 obtain⟨g,hg⟩:∃ g,decide (0 < x.P)=g:=⟨_,rfl⟩
 have CR:=hid (fun (w':World) (a:Below w.heap.size w w')=>zcd x.WA x.BA x.nW x.cW x.nB x.cB ws bs hL.lw hL.lb hL.iw hL.ib hL.cw.1 hL.cw.2 hW2 hB2 l h x.Z bd.1.1 bd.1.2 bd.2.1.1 bd.2.1.2 ok.1.1 ok.1.2 g (x.nW / x.nB) (za4 hs) hs.1 (lsW ws bs x.nW x.nB l h x.Z g) (grW ws bs x.nW x.nB l h x.Z g) rfl rfl w' ((hL.rw.below a).more a.size) ((hL.rb.below a).more a.size))
 rw [hg] at hf
 rw [hf] at CR
 generalize lsW ws bs x.nW x.nB l h x.Z g=X at CR
 generalize grW ws bs x.nW x.nB l h x.Z g=Y at CR
 have dp0:decide (x.P > 0)=g:=hg
 have CK:=hid hck
 clear hg0 hw0 hck he hk hs hL hW2 hB2 hf
 go_enter Tryz.func30,Tryz.ntmps30
 go_upto_region 1 with fail
 generalize ((((w.alloc (.cells x.val 61)).alloc (.cells #[.int .i8 l,.int .i8 h] 70)).alloc (.cells #[.int .i8 l2,.int .i8 h2] 70)).alloc (.cells #[.int .i8 0,.int .i8 0] 70))=W0 at HG HW ⊢
 have c0:=HG.out.1.at 0 _ rfl
 have c5:=HG.out.1.at 5 _ rfl
 have c7:=HG.out.1.at 7 _ rfl
 have c9:=HG.out.1.at 9 _ rfl
 have c10:=HG.out.1.at 10 _ rfl
 have c11:=HG.out.1.at 11 _ rfl
 have c12:=HG.out.1.at 12 _ rfl
 have c13:=HG.out.1.at 13 _ rfl
 have c17:=HG.out.1.at 17 _ rfl
 have c18:=HG.out.1.at 18 _ rfl
 obtain⟨a0,a1⟩:=HG.out.2.1
 obtain⟨b0,b1⟩:=HG.out.2.2.1
 go_wp2_with (refine zac rfl _ rfl w.heap.size x rfl HG.out.1 ?_)
 go_at_call 22
 refine (CK.out _).mono ?_
 rintro e w1 ⟨rfl,hb⟩
 replace HG:=hid (HG.out.below hb)
 replace HW:=hid (HW.out.trans (hb.mono HW.out.size))
 clear hb c0 c5 c7 c9 c10 c11 c12 c13 c17 c18 a0 a1 b0 b1
 have c0:=HG.out.1.at 0 _ rfl
 have c5:=HG.out.1.at 5 _ rfl
 have c7:=HG.out.1.at 7 _ rfl
 have c9:=HG.out.1.at 9 _ rfl
 have c10:=HG.out.1.at 10 _ rfl
 have c11:=HG.out.1.at 11 _ rfl
 have c12:=HG.out.1.at 12 _ rfl
 have c13:=HG.out.1.at 13 _ rfl
 have c17:=HG.out.1.at 17 _ rfl
 have c18:=HG.out.1.at 18 _ rfl
 obtain⟨a0,a1⟩:=HG.out.2.1
 obtain⟨b0,b1⟩:=HG.out.2.2.1
 go_wp2_with (refine zac rfl _ rfl w.heap.size x rfl HG.out.1 ?_)
 go_at_call 31
 refine (CS.out _).mono ?_
 rintro e w2 ⟨rfl,hw1⟩
 have hb:=zch hw1
 clear hw1
 replace HG:=hid (HG.out.below hb)
 replace HW:=hid (HW.out.trans (hb.mono HW.out.size))
 clear hb c0 c5 c7 c9 c10 c11 c12 c13 c17 c18 a0 a1 b0 b1
 have c0:=HG.out.1.at 0 _ rfl
 have c5:=HG.out.1.at 5 _ rfl
 have c7:=HG.out.1.at 7 _ rfl
 have c9:=HG.out.1.at 9 _ rfl
 have c10:=HG.out.1.at 10 _ rfl
 have c11:=HG.out.1.at 11 _ rfl
 have c12:=HG.out.1.at 12 _ rfl
 have c13:=HG.out.1.at 13 _ rfl
 have c17:=HG.out.1.at 17 _ rfl
 have c18:=HG.out.1.at 18 _ rfl
 obtain⟨a0,a1⟩:=HG.out.2.1
 obtain⟨b0,b1⟩:=HG.out.2.2.1
 go_wp2_with (refine zac rfl _ rfl w.heap.size x rfl HG.out.1 ?_)
 go_at_call 32
 refine (CR.out _ HW.out).mono ?_
 rintro e w3 ⟨rfl,m3,hw3⟩
 have hb:=quiet_b hw3
 clear hw3
 replace HG:=hid (HG.out.below hb)
 replace HW:=hid (HW.out.trans (hb.mono HW.out.size))
 clear hb c0 c5 c7 c9 c10 c11 c12 c13 c17 c18 a0 a1 b0 b1
 have c0:=HG.out.1.at 0 _ rfl
 have c5:=HG.out.1.at 5 _ rfl
 have c7:=HG.out.1.at 7 _ rfl
 have c9:=HG.out.1.at 9 _ rfl
 have c10:=HG.out.1.at 10 _ rfl
 have c11:=HG.out.1.at 11 _ rfl
 have c12:=HG.out.1.at 12 _ rfl
 have c13:=HG.out.1.at 13 _ rfl
 have c17:=HG.out.1.at 17 _ rfl
 have c18:=HG.out.1.at 18 _ rfl
 obtain⟨a0,a1⟩:=HG.out.2.1
 obtain⟨b0,b1⟩:=HG.out.2.2.1
 obtain⟨⟨z0,z1⟩,z2,z3⟩:=HG.out.2.2.2.1
 go_wp2_with (refine zac rfl _ rfl w.heap.size x rfl HG.out.1 ?_)
 refine bodyPost_ret (Kit.zaa rfl _ _ (w.heap.size+3) 0 [.int .i8 (0),.int .i8 (0)] _ rfl (Kit.zaq (by go_cell) (by go_cell)) Tryz.underlying70 rfl (by kernel_rfl)) rfl ?_
 exact⟨rfl,(HW.out.setCell (p:=⟨w.heap.size+3,0,none⟩) (by simp) _).setCell (p:=⟨w.heap.size+3,1,none⟩) (by simp) _⟩
theorem rgn_sum3n {w:World} (x:Nd) (l h l2 h2:Int) (bd:(-128≤l∧l≤127)∧(-128≤h∧h≤127)∧(-128≤l2∧l2≤127)∧(-128≤h2∧h2≤127)) (ok:NBd x.Z x.Y x.m1 x.z1 x.m2 x.z2 x.lo x.hi) (ws bs:List Int) (hL:NdL w w.heap.size x ws bs) (hW2:x.nW≤20000) (hB2:x.nB≤20000) (he:x.checkZ=0) (hk:x.kd=3) (hlh:l≤h) (hs:¬ (1≤x.nB∧x.nW % x.nB=0)) :
  Calls Tryz.prog 30 #[.agg x.val,.agg #[.int .i8 l,.int .i8 h],.agg #[.int .i8 l2,.int .i8 h2]] w fun e w'=>e=.returned (.tuple #[.agg #[.int .i8 (min (heldZ (c32 0) x.m1 x.s1 x.z1 x.lo x.hi) (heldZ (c32 0) x.m1 x.s1 x.z1 x.lo x.hi)),.int .i8 (max (heldZ (c32 0) x.m1 x.s1 x.z1 x.lo x.hi) (heldZ (c32 0) x.m1 x.s1 x.z1 x.lo x.hi))],.int .i64 (0)])∧Below w.heap.size w w':=by
 obtain⟨hg0,hw0⟩:=zau.new w x l h l2 h2
 have HG:=hid hg0
 have HW:=hid hw0
 have hck:=zar x
 unfold zbh at hck
 rw [he] at hck
 have dlh:decide (h < l)=false:=by simp;omega
 have dlh2:¬ h < l:=by omega
 have dk1:(x.kd == 1)=false:=by simp [hk]
 have dk2:(x.kd == 2)=false:=by simp [hk]
 have dk3:(x.kd == 3)=true:=by simp [hk]
 have dk6:(x.kd == 6)=false:=by simp [hk]
 have dk7:(x.kd == 7)=false:=by simp [hk]
 have dk8:(x.kd == 8)=false:=by simp [hk]
 have CS:=hid (fun w:World=>zbc x.WA x.BA x.nW x.cW x.nB x.cB (by omega) (by omega) w)
 rw [show decide (1≤x.nB∧x.nW % x.nB=0)=false by simp only [hs,decide_false]] at CS
 have CA:=hid (fun w:World=>zcg (0) (0) x.m1 x.s1 x.z1 x.lo x.hi ok.2.2.1.1 ok.2.2.1.2 ok.2.2.2.1.1 ok.2.2.2.1.2 ok.2.2.2.2.2.2.1.1 ok.2.2.2.2.2.2.1.2 ok.2.2.2.2.2.2.2.1 ok.2.2.2.2.2.2.2.2 w)
 generalize min (heldZ (c32 (0)) x.m1 x.s1 x.z1 x.lo x.hi) (heldZ (c32 (0)) x.m1 x.s1 x.z1 x.lo x.hi)=ra at CA ⊢
 generalize max (heldZ (c32 (0)) x.m1 x.s1 x.z1 x.lo x.hi) (heldZ (c32 (0)) x.m1 x.s1 x.z1 x.lo x.hi)=rb at CA ⊢
 have CK:=hid hck
 clear hg0 hw0 hck he hk hs
 go_enter Tryz.func30,Tryz.ntmps30
 go_upto_region 1 with fail
 generalize ((((w.alloc (.cells x.val 61)).alloc (.cells #[.int .i8 l,.int .i8 h] 70)).alloc (.cells #[.int .i8 l2,.int .i8 h2] 70)).alloc (.cells #[.int .i8 0,.int .i8 0] 70))=W0 at HG HW ⊢
 have c0:=HG.out.1.at 0 _ rfl
 have c5:=HG.out.1.at 5 _ rfl
 have c7:=HG.out.1.at 7 _ rfl
 have c9:=HG.out.1.at 9 _ rfl
 have c10:=HG.out.1.at 10 _ rfl
 have c11:=HG.out.1.at 11 _ rfl
 have c12:=HG.out.1.at 12 _ rfl
 have c13:=HG.out.1.at 13 _ rfl
 have c17:=HG.out.1.at 17 _ rfl
 have c18:=HG.out.1.at 18 _ rfl
 obtain⟨a0,a1⟩:=HG.out.2.1
 obtain⟨b0,b1⟩:=HG.out.2.2.1
 go_wp2_with (refine zac rfl _ rfl w.heap.size x rfl HG.out.1 ?_)
 go_at_call 22
 refine (CK.out _).mono ?_
 rintro e w1 ⟨rfl,hb⟩
 replace HG:=hid (HG.out.below hb)
 replace HW:=hid (HW.out.trans (hb.mono HW.out.size))
 clear hb c0 c5 c7 c9 c10 c11 c12 c13 c17 c18 a0 a1 b0 b1
 have c0:=HG.out.1.at 0 _ rfl
 have c5:=HG.out.1.at 5 _ rfl
 have c7:=HG.out.1.at 7 _ rfl
 have c9:=HG.out.1.at 9 _ rfl
 have c10:=HG.out.1.at 10 _ rfl
 have c11:=HG.out.1.at 11 _ rfl
 have c12:=HG.out.1.at 12 _ rfl
 have c13:=HG.out.1.at 13 _ rfl
 have c17:=HG.out.1.at 17 _ rfl
 have c18:=HG.out.1.at 18 _ rfl
 obtain⟨a0,a1⟩:=HG.out.2.1
 obtain⟨b0,b1⟩:=HG.out.2.2.1
 go_wp2_with (refine zac rfl _ rfl w.heap.size x rfl HG.out.1 ?_)
 go_at_call 31
 refine (CS.out _).mono ?_
 rintro e w2 ⟨rfl,hw1⟩
 have hb:=zch hw1
 clear hw1
 replace HG:=hid (HG.out.below hb)
 replace HW:=hid (HW.out.trans (hb.mono HW.out.size))
 clear hb c0 c5 c7 c9 c10 c11 c12 c13 c17 c18 a0 a1 b0 b1
 have c0:=HG.out.1.at 0 _ rfl
 have c5:=HG.out.1.at 5 _ rfl
 have c7:=HG.out.1.at 7 _ rfl
 have c9:=HG.out.1.at 9 _ rfl
 have c10:=HG.out.1.at 10 _ rfl
 have c11:=HG.out.1.at 11 _ rfl
 have c12:=HG.out.1.at 12 _ rfl
 have c13:=HG.out.1.at 13 _ rfl
 have c17:=HG.out.1.at 17 _ rfl
 have c18:=HG.out.1.at 18 _ rfl
 obtain⟨a0,a1⟩:=HG.out.2.1
 obtain⟨b0,b1⟩:=HG.out.2.2.1
 go_wp2_with (refine zac rfl _ rfl w.heap.size x rfl HG.out.1 ?_)
 go_at_call 50
 refine (CA.out _).mono ?_
 rintro e w3 ⟨rfl,hb⟩
 replace HG:=hid (HG.out.below hb)
 replace HW:=hid (HW.out.trans (hb.mono HW.out.size))
 clear hb c0 c5 c7 c9 c10 c11 c12 c13 c17 c18 a0 a1 b0 b1
 have c0:=HG.out.1.at 0 _ rfl
 have c5:=HG.out.1.at 5 _ rfl
 have c7:=HG.out.1.at 7 _ rfl
 have c9:=HG.out.1.at 9 _ rfl
 have c10:=HG.out.1.at 10 _ rfl
 have c11:=HG.out.1.at 11 _ rfl
 have c12:=HG.out.1.at 12 _ rfl
 have c13:=HG.out.1.at 13 _ rfl
 have c17:=HG.out.1.at 17 _ rfl
 have c18:=HG.out.1.at 18 _ rfl
 obtain⟨a0,a1⟩:=HG.out.2.1
 obtain⟨b0,b1⟩:=HG.out.2.2.1
 obtain⟨⟨z0,z1⟩,z2,z3⟩:=HG.out.2.2.2.1
 go_wp2_with (refine zac rfl _ rfl w.heap.size x rfl HG.out.1 ?_)
 refine bodyPost_ret (Kit.zaa rfl _ _ (w.heap.size+3) 0 [.int .i8 (ra),.int .i8 (rb)] _ rfl (Kit.zaq (by go_cell) (by go_cell)) Tryz.underlying70 rfl (by kernel_rfl)) rfl ?_
 exact⟨rfl,(HW.out.setCell (p:=⟨w.heap.size+3,0,none⟩) (by simp) _).setCell (p:=⟨w.heap.size+3,1,none⟩) (by simp) _⟩
def gnZ (x:Nd) (ws bs:List Int) (l h l2 h2:Int):Int × Int × Int :=
 if x.checkZ≠0 then (0,0,x.checkZ) else if h < l∨(x.kd=6∧h2 < l2) then (0,0,2)
 else if x.kd=1∨x.kd=2∨x.kd=3 then
  (if 1≤x.nB∧x.nW % x.nB=0 then (if fitB (lsW ws bs x.nW x.nB l h x.Z (decide (0 < x.P))) (grW ws bs x.nW x.nB l h x.Z (decide (0 < x.P)))=true then (min (heldZ (c32 (lsW ws bs x.nW x.nB l h x.Z (decide (0 < x.P)))) x.m1 x.s1 x.z1 x.lo x.hi) (heldZ (c32 (grW ws bs x.nW x.nB l h x.Z (decide (0 < x.P)))) x.m1 x.s1 x.z1 x.lo x.hi),max (heldZ (c32 (lsW ws bs x.nW x.nB l h x.Z (decide (0 < x.P)))) x.m1 x.s1 x.z1 x.lo x.hi) (heldZ (c32 (grW ws bs x.nW x.nB l h x.Z (decide (0 < x.P)))) x.m1 x.s1 x.z1 x.lo x.hi),0) else (0,0,10)) else (min (heldZ (c32 (0)) x.m1 x.s1 x.z1 x.lo x.hi) (heldZ (c32 (0)) x.m1 x.s1 x.z1 x.lo x.hi),max (heldZ (c32 (0)) x.m1 x.s1 x.z1 x.lo x.hi) (heldZ (c32 (0)) x.m1 x.s1 x.z1 x.lo x.hi),0))
 else if x.kd=6 then (oneZ l l2 x.Z x.Y x.m1 x.s1 x.z1 x.m2 x.s2 x.lo x.hi,oneZ h h2 x.Z x.Y x.m1 x.s1 x.z1 x.m2 x.s2 x.lo x.hi,0) else if x.kd=7 then (heldZ (l - x.Z) x.m1 x.s1 x.z1 x.lo x.hi,heldZ (h - x.Z) x.m1 x.s1 x.z1 x.lo x.hi,0) else if x.kd=8∧0 < x.P then (min l x.Z,max h x.Z,0) else (l,h,0)
theorem check_kd {x:Nd} (h:x.checkZ=0):1≤x.kd∧x.kd≤9:=by
 unfold Nd.checkZ at h
 split at h
 ·cases h
 ·rename_i h1;omega
theorem rgnode_to {w:World} (x:Nd) (l h l2 h2:Int) (bd:(-128≤l∧l≤127)∧(-128≤h∧h≤127)∧(-128≤l2∧l2≤127)∧(-128≤h2∧h2≤127)) (ws bs:List Int) (hL:NdL w w.heap.size x ws bs) (hW2:x.nW≤20000) (hB2:x.nB≤20000) :
  Calls Tryz.prog 30 #[.agg x.val,.agg #[.int .i8 l,.int .i8 h],.agg #[.int .i8 l2,.int .i8 h2]] w fun e w'=>e=.returned (.tuple #[.agg #[.int .i8 (gnZ x ws bs l h l2 h2).1,.int .i8 (gnZ x ws bs l h l2 h2).2.1],.int .i64 (gnZ x ws bs l h l2 h2).2.2])∧Below w.heap.size w w':=by
 have ok:=nbd_of hL.ok
 unfold gnZ
 by_cases hc:x.checkZ≠0
 ·rw [if_pos hc];exact rgn_chk x l h l2 h2 bd ok _ rfl hc
 ·rw [if_neg hc]
  have he:x.checkZ=0:=by omega
  have hkd:=check_kd he
  by_cases hlh:h < l
  ·rw [if_pos (.inl hlh)];exact rgn_arg x l h l2 h2 bd ok he hlh
  ·by_cases h6:x.kd=6∧h2 < l2
   ·rw [if_pos (.inr h6)];exact rgn_arg6 x l h l2 h2 bd ok he h6.1 (by omega) h6.2
   ·rw [if_neg (by omega)]
    by_cases hs3:x.kd=1∨x.kd=2∨x.kd=3
    ·rw [if_pos hs3]
     by_cases hs:1≤x.nB∧x.nW % x.nB=0
     ·rw [if_pos hs]
      cases hf:fitB (lsW ws bs x.nW x.nB l h x.Z (decide (0 < x.P))) (grW ws bs x.nW x.nB l h x.Z (decide (0 < x.P)))
      ·rw [if_neg (by simp)]
       rcases hs3 with k | k | k
       ·exact rgn_sum1o x l h l2 h2 bd ok ws bs hL hW2 hB2 he k (by omega) hs hf
       ·exact rgn_sum2o x l h l2 h2 bd ok ws bs hL hW2 hB2 he k (by omega) hs hf
       ·exact rgn_sum3o x l h l2 h2 bd ok ws bs hL hW2 hB2 he k (by omega) hs hf
      ·rw [if_pos rfl]
       rcases hs3 with k | k | k
       ·exact rgn_sum1y x l h l2 h2 bd ok ws bs hL hW2 hB2 he k (by omega) hs hf
       ·exact rgn_sum2y x l h l2 h2 bd ok ws bs hL hW2 hB2 he k (by omega) hs hf
       ·exact rgn_sum3y x l h l2 h2 bd ok ws bs hL hW2 hB2 he k (by omega) hs hf
     ·rw [if_neg hs]
      rcases hs3 with k | k | k
      ·exact rgn_sum1n x l h l2 h2 bd ok ws bs hL hW2 hB2 he k (by omega) hs
      ·exact rgn_sum2n x l h l2 h2 bd ok ws bs hL hW2 hB2 he k (by omega) hs
      ·exact rgn_sum3n x l h l2 h2 bd ok ws bs hL hW2 hB2 he k (by omega) hs
    ·rw [if_neg hs3]
     by_cases k6:x.kd=6
     ·rw [if_pos k6];exact rgn_join x l h l2 h2 bd ok he k6 (by omega) (by omega)
     ·rw [if_neg k6]
      by_cases k7:x.kd=7
      ·rw [if_pos k7];exact rgn_act x l h l2 h2 bd ok he k7 (by omega)
      ·rw [if_neg k7]
       by_cases k8:x.kd=8∧0 < x.P
       ·rw [if_pos k8];exact rgn_pad1 x l h l2 h2 bd ok he k8.1 (by omega) k8.2
       ·rw [if_neg k8]
        rcases (show x.kd=4∨x.kd=5∨x.kd=9∨x.kd=8 by omega) with k | k | k | k
        ·exact rgn_same4 x l h l2 h2 bd ok he k (by omega)
        ·exact rgn_same5 x l h l2 h2 bd ok he k (by omega)
        ·exact rgn_same9 x l h l2 h2 bd ok he k (by omega)
        ·exact rgn_pad0 x l h l2 h2 bd ok he k (by omega) (fun hp=>k8 ⟨k,hp⟩)
end CGuard
end
end Go.Proofs.YtoffcaldhojjoaaGreatDoor
