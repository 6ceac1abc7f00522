/- -/
import Derived.Test.YtoffcaldhojjoaaGreatDoorGVU32
open Go.Lib (hid)
open Nat (le_refl lt_of_succ_lt lt_succ_self)
set_option linter.unusedVariables false
set_option linter.unusedSimpArgs false
set_option maxRecDepth 100000
set_option maxHeartbeats 16000000
namespace Go.Proofs.YtoffcaldhojjoaaGreatDoor
namespace CConv
end CConv
namespace CFix
end CFix
namespace CGraph
end CGraph
namespace CKind
end CKind
namespace CSat
end CSat
namespace CSpan
end CSpan
namespace CTensor
end CTensor
open Go Go.ChangeShapes Go.WideShapes Go.ChangeAt Go.RowKit Go.Deep
section
namespace CGuard
open Plain CSat CFix CShape CTensor CConv CSpan CKind CGraph CJoin
theorem rgn_sum1y {w:World} (x:Nd) (l h l2 h2:Int) (bd:(-128≤l∧l≤127)∧(-128≤h∧h≤127)∧(-128≤l2∧l2≤127)∧(-128≤h2∧h2≤127)) (ok:NBd x.Z x.Y x.m1 x.z1 x.m2 x.z2 x.lo x.hi) (ws bs:List Int) (hL:NdL w w.heap.size x ws bs) (hW2:x.nW≤20000) (hB2:x.nB≤20000) (he:x.checkZ=0) (hk:x.kd=1) (hlh:l≤h) (hs:1≤x.nB∧x.nW % x.nB=0) (hf:fitB (lsW ws bs x.nW x.nB l h x.Z (decide (0 < x.P))) (grW ws bs x.nW x.nB l h x.Z (decide (0 < x.P)))=true) :
  Calls Tryz.prog 30 #[.agg x.val,.agg #[.int .i8 l,.int .i8 h],.agg #[.int .i8 l2,.int .i8 h2]] w fun e w'=>e=.returned (.tuple #[.agg #[.int .i8 (min (heldZ (c32 (lsW ws bs x.nW x.nB l h x.Z (decide (0 < x.P)))) x.m1 x.s1 x.z1 x.lo x.hi) (heldZ (c32 (grW ws bs x.nW x.nB l h x.Z (decide (0 < x.P)))) x.m1 x.s1 x.z1 x.lo x.hi)),.int .i8 (max (heldZ (c32 (lsW ws bs x.nW x.nB l h x.Z (decide (0 < x.P)))) x.m1 x.s1 x.z1 x.lo x.hi) (heldZ (c32 (grW ws bs x.nW x.nB l h x.Z (decide (0 < x.P)))) x.m1 x.s1 x.z1 x.lo x.hi))],.int .i64 (0)])∧Below w.heap.size w w':=by
 obtain⟨hg0,hw0⟩:=zau.new w x l h l2 h2
 have HG:=hid hg0
 have HW:=hid hw0
 have hck:=zar x
 unfold zbh at hck
 rw [he] at hck
 have dlh:decide (h < l)=false:=by simp;omega
 have dlh2:¬ h < l:=by omega
 have dk1:(x.kd == 1)=true:=by simp [hk]
 have dk2:(x.kd == 2)=false:=by simp [hk]
 have dk3:(x.kd == 3)=false:=by simp [hk]
 have dk6:(x.kd == 6)=false:=by simp [hk]
 have dk7:(x.kd == 7)=false:=by simp [hk]
 have dk8:(x.kd == 8)=false:=by simp [hk]
 have CS:=hid (fun w:World=>zbc x.WA x.BA x.nW x.cW x.nB x.cB (by omega) (by omega) w)
 rw [show decide (1≤x.nB∧x.nW % x.nB=0)=true by simp only [hs,and_self,decide_true]] at CS
 obtain⟨g,hg⟩:∃ g,decide (0 < x.P)=g:=⟨_,rfl⟩
 have CR:=hid (fun (w':World) (a:Below w.heap.size w w')=>zcd x.WA x.BA x.nW x.cW x.nB x.cB ws bs hL.lw hL.lb hL.iw hL.ib hL.cw.1 hL.cw.2 hW2 hB2 l h x.Z bd.1.1 bd.1.2 bd.2.1.1 bd.2.1.2 ok.1.1 ok.1.2 g (x.nW / x.nB) (za4 hs) hs.1 (lsW ws bs x.nW x.nB l h x.Z g) (grW ws bs x.nW x.nB l h x.Z g) rfl rfl w' ((hL.rw.below a).more a.size) ((hL.rb.below a).more a.size))
 rw [hg] at hf
 rw [hf] at CR
 rw [hg]
 generalize lsW ws bs x.nW x.nB l h x.Z g=X at CR ⊢
 generalize grW ws bs x.nW x.nB l h x.Z g=Y at CR ⊢
 have CA:=hid (fun w:World=>zcg (X) (Y) x.m1 x.s1 x.z1 x.lo x.hi ok.2.2.1.1 ok.2.2.1.2 ok.2.2.2.1.1 ok.2.2.2.1.2 ok.2.2.2.2.2.2.1.1 ok.2.2.2.2.2.2.1.2 ok.2.2.2.2.2.2.2.1 ok.2.2.2.2.2.2.2.2 w)
 generalize min (heldZ (c32 (X)) x.m1 x.s1 x.z1 x.lo x.hi) (heldZ (c32 (Y)) x.m1 x.s1 x.z1 x.lo x.hi)=ra at CA ⊢
 generalize max (heldZ (c32 (X)) x.m1 x.s1 x.z1 x.lo x.hi) (heldZ (c32 (Y)) x.m1 x.s1 x.z1 x.lo x.hi)=rb at CA ⊢
 have dp0:decide (x.P > 0)=g:=hg
 have CK:=hid hck
 clear hg0 hw0 hck he hk hs hL hW2 hB2 hf
 go_enter Tryz.func30,Tryz.ntmps30
 go_upto_region 1 with fail
 generalize ((((w.alloc (.cells x.val 61)).alloc (.cells #[.int .i8 l,.int .i8 h] 70)).alloc (.cells #[.int .i8 l2,.int .i8 h2] 70)).alloc (.cells #[.int .i8 0,.int .i8 0] 70))=W0 at HG HW ⊢
 have c0:=HG.out.1.at 0 _ rfl
 have c5:=HG.out.1.at 5 _ rfl
 have c7:=HG.out.1.at 7 _ rfl
 have c9:=HG.out.1.at 9 _ rfl
 have c10:=HG.out.1.at 10 _ rfl
 have c11:=HG.out.1.at 11 _ rfl
 have c12:=HG.out.1.at 12 _ rfl
 have c13:=HG.out.1.at 13 _ rfl
 have c17:=HG.out.1.at 17 _ rfl
 have c18:=HG.out.1.at 18 _ rfl
 obtain⟨a0,a1⟩:=HG.out.2.1
 obtain⟨b0,b1⟩:=HG.out.2.2.1
 go_wp2_with (refine zac rfl _ rfl w.heap.size x rfl HG.out.1 ?_)
 go_at_call 22
 refine (CK.out _).mono ?_
 rintro e w1 ⟨rfl,hb⟩
 replace HG:=hid (HG.out.below hb)
 replace HW:=hid (HW.out.trans (hb.mono HW.out.size))
 clear hb c0 c5 c7 c9 c10 c11 c12 c13 c17 c18 a0 a1 b0 b1
 have c0:=HG.out.1.at 0 _ rfl
 have c5:=HG.out.1.at 5 _ rfl
 have c7:=HG.out.1.at 7 _ rfl
 have c9:=HG.out.1.at 9 _ rfl
 have c10:=HG.out.1.at 10 _ rfl
 have c11:=HG.out.1.at 11 _ rfl
 have c12:=HG.out.1.at 12 _ rfl
 have c13:=HG.out.1.at 13 _ rfl
 have c17:=HG.out.1.at 17 _ rfl
 have c18:=HG.out.1.at 18 _ rfl
 obtain⟨a0,a1⟩:=HG.out.2.1
 obtain⟨b0,b1⟩:=HG.out.2.2.1
 go_wp2_with (refine zac rfl _ rfl w.heap.size x rfl HG.out.1 ?_)
 go_at_call 31
 refine (CS.out _).mono ?_
 rintro e w2 ⟨rfl,hw1⟩
 have hb:=zch hw1
 clear hw1
 replace HG:=hid (HG.out.below hb)
 replace HW:=hid (HW.out.trans (hb.mono HW.out.size))
 clear hb c0 c5 c7 c9 c10 c11 c12 c13 c17 c18 a0 a1 b0 b1
 have c0:=HG.out.1.at 0 _ rfl
 have c5:=HG.out.1.at 5 _ rfl
 have c7:=HG.out.1.at 7 _ rfl
 have c9:=HG.out.1.at 9 _ rfl
 have c10:=HG.out.1.at 10 _ rfl
 have c11:=HG.out.1.at 11 _ rfl
 have c12:=HG.out.1.at 12 _ rfl
 have c13:=HG.out.1.at 13 _ rfl
 have c17:=HG.out.1.at 17 _ rfl
 have c18:=HG.out.1.at 18 _ rfl
 obtain⟨a0,a1⟩:=HG.out.2.1
 obtain⟨b0,b1⟩:=HG.out.2.2.1
 go_wp2_with (refine zac rfl _ rfl w.heap.size x rfl HG.out.1 ?_)
 go_at_call 32
 refine (CR.out _ HW.out).mono ?_
 rintro e w3 ⟨rfl,m3,hw3⟩
 have hb:=quiet_b hw3
 clear hw3
 replace HG:=hid (HG.out.below hb)
 replace HW:=hid (HW.out.trans (hb.mono HW.out.size))
 clear hb c0 c5 c7 c9 c10 c11 c12 c13 c17 c18 a0 a1 b0 b1
 have c0:=HG.out.1.at 0 _ rfl
 have c5:=HG.out.1.at 5 _ rfl
 have c7:=HG.out.1.at 7 _ rfl
 have c9:=HG.out.1.at 9 _ rfl
 have c10:=HG.out.1.at 10 _ rfl
 have c11:=HG.out.1.at 11 _ rfl
 have c12:=HG.out.1.at 12 _ rfl
 have c13:=HG.out.1.at 13 _ rfl
 have c17:=HG.out.1.at 17 _ rfl
 have c18:=HG.out.1.at 18 _ rfl
 obtain⟨a0,a1⟩:=HG.out.2.1
 obtain⟨b0,b1⟩:=HG.out.2.2.1
 go_wp2_with (refine zac rfl _ rfl w.heap.size x rfl HG.out.1 ?_)
 go_at_call 50
 refine (CA.out _).mono ?_
 rintro e w4 ⟨rfl,hb⟩
 replace HG:=hid (HG.out.below hb)
 replace HW:=hid (HW.out.trans (hb.mono HW.out.size))
 clear hb c0 c5 c7 c9 c10 c11 c12 c13 c17 c18 a0 a1 b0 b1
 have c0:=HG.out.1.at 0 _ rfl
 have c5:=HG.out.1.at 5 _ rfl
 have c7:=HG.out.1.at 7 _ rfl
 have c9:=HG.out.1.at 9 _ rfl
 have c10:=HG.out.1.at 10 _ rfl
 have c11:=HG.out.1.at 11 _ rfl
 have c12:=HG.out.1.at 12 _ rfl
 have c13:=HG.out.1.at 13 _ rfl
 have c17:=HG.out.1.at 17 _ rfl
 have c18:=HG.out.1.at 18 _ rfl
 obtain⟨a0,a1⟩:=HG.out.2.1
 obtain⟨b0,b1⟩:=HG.out.2.2.1
 obtain⟨⟨z0,z1⟩,z2,z3⟩:=HG.out.2.2.2.1
 go_wp2_with (refine zac rfl _ rfl w.heap.size x rfl HG.out.1 ?_)
 refine bodyPost_ret (Kit.zaa rfl _ _ (w.heap.size+3) 0 [.int .i8 (ra),.int .i8 (rb)] _ rfl (Kit.zaq (by go_cell) (by go_cell)) Tryz.underlying70 rfl (by kernel_rfl)) rfl ?_
 exact⟨rfl,(HW.out.setCell (p:=⟨w.heap.size+3,0,none⟩) (by simp) _).setCell (p:=⟨w.heap.size+3,1,none⟩) (by simp) _⟩
theorem rgn_sum2y {w:World} (x:Nd) (l h l2 h2:Int) (bd:(-128≤l∧l≤127)∧(-128≤h∧h≤127)∧(-128≤l2∧l2≤127)∧(-128≤h2∧h2≤127)) (ok:NBd x.Z x.Y x.m1 x.z1 x.m2 x.z2 x.lo x.hi) (ws bs:List Int) (hL:NdL w w.heap.size x ws bs) (hW2:x.nW≤20000) (hB2:x.nB≤20000) (he:x.checkZ=0) (hk:x.kd=2) (hlh:l≤h) (hs:1≤x.nB∧x.nW % x.nB=0) (hf:fitB (lsW ws bs x.nW x.nB l h x.Z (decide (0 < x.P))) (grW ws bs x.nW x.nB l h x.Z (decide (0 < x.P)))=true) :
  Calls Tryz.prog 30 #[.agg x.val,.agg #[.int .i8 l,.int .i8 h],.agg #[.int .i8 l2,.int .i8 h2]] w fun e w'=>e=.returned (.tuple #[.agg #[.int .i8 (min (heldZ (c32 (lsW ws bs x.nW x.nB l h x.Z (decide (0 < x.P)))) x.m1 x.s1 x.z1 x.lo x.hi) (heldZ (c32 (grW ws bs x.nW x.nB l h x.Z (decide (0 < x.P)))) x.m1 x.s1 x.z1 x.lo x.hi)),.int .i8 (max (heldZ (c32 (lsW ws bs x.nW x.nB l h x.Z (decide (0 < x.P)))) x.m1 x.s1 x.z1 x.lo x.hi) (heldZ (c32 (grW ws bs x.nW x.nB l h x.Z (decide (0 < x.P)))) x.m1 x.s1 x.z1 x.lo x.hi))],.int .i64 (0)])∧Below w.heap.size w w':=by
 obtain⟨hg0,hw0⟩:=zau.new w x l h l2 h2
 have HG:=hid hg0
 have HW:=hid hw0
 have hck:=zar x
 unfold zbh at hck
 rw [he] at hck
 have dlh:decide (h < l)=false:=by simp;omega
 have dlh2:¬ h < l:=by omega
 have dk1:(x.kd == 1)=false:=by simp [hk]
 have dk2:(x.kd == 2)=true:=by simp [hk]
 have dk3:(x.kd == 3)=false:=by simp [hk]
 have dk6:(x.kd == 6)=false:=by simp [hk]
 have dk7:(x.kd == 7)=false:=by simp [hk]
 have dk8:(x.kd == 8)=false:=by simp [hk]
 have CS:=hid (fun w:World=>zbc x.WA x.BA x.nW x.cW x.nB x.cB (by omega) (by omega) w)
 rw [show decide (1≤x.nB∧x.nW % x.nB=0)=true by simp only [hs,and_self,decide_true]] at CS
 obtain⟨g,hg⟩:∃ g,decide (0 < x.P)=g:=⟨_,rfl⟩
 have CR:=hid (fun (w':World) (a:Below w.heap.size w w')=>zcd x.WA x.BA x.nW x.cW x.nB x.cB ws bs hL.lw hL.lb hL.iw hL.ib hL.cw.1 hL.cw.2 hW2 hB2 l h x.Z bd.1.1 bd.1.2 bd.2.1.1 bd.2.1.2 ok.1.1 ok.1.2 g (x.nW / x.nB) (za4 hs) hs.1 (lsW ws bs x.nW x.nB l h x.Z g) (grW ws bs x.nW x.nB l h x.Z g) rfl rfl w' ((hL.rw.below a).more a.size) ((hL.rb.below a).more a.size))
 rw [hg] at hf
 rw [hf] at CR
 rw [hg]
 generalize lsW ws bs x.nW x.nB l h x.Z g=X at CR ⊢
 generalize grW ws bs x.nW x.nB l h x.Z g=Y at CR ⊢
 have CA:=hid (fun w:World=>zcg (X) (Y) x.m1 x.s1 x.z1 x.lo x.hi ok.2.2.1.1 ok.2.2.1.2 ok.2.2.2.1.1 ok.2.2.2.1.2 ok.2.2.2.2.2.2.1.1 ok.2.2.2.2.2.2.1.2 ok.2.2.2.2.2.2.2.1 ok.2.2.2.2.2.2.2.2 w)
 generalize min (heldZ (c32 (X)) x.m1 x.s1 x.z1 x.lo x.hi) (heldZ (c32 (Y)) x.m1 x.s1 x.z1 x.lo x.hi)=ra at CA ⊢
 generalize max (heldZ (c32 (X)) x.m1 x.s1 x.z1 x.lo x.hi) (heldZ (c32 (Y)) x.m1 x.s1 x.z1 x.lo x.hi)=rb at CA ⊢
 have dp0:decide (x.P > 0)=g:=hg
 have CK:=hid hck
 clear hg0 hw0 hck he hk hs hL hW2 hB2 hf
 go_enter Tryz.func30,Tryz.ntmps30
 go_upto_region 1 with fail
 generalize ((((w.alloc (.cells x.val 61)).alloc (.cells #[.int .i8 l,.int .i8 h] 70)).alloc (.cells #[.int .i8 l2,.int .i8 h2] 70)).alloc (.cells #[.int .i8 0,.int .i8 0] 70))=W0 at HG HW ⊢
 have c0:=HG.out.1.at 0 _ rfl
 have c5:=HG.out.1.at 5 _ rfl
 have c7:=HG.out.1.at 7 _ rfl
 have c9:=HG.out.1.at 9 _ rfl
 have c10:=HG.out.1.at 10 _ rfl
 have c11:=HG.out.1.at 11 _ rfl
 have c12:=HG.out.1.at 12 _ rfl
 have c13:=HG.out.1.at 13 _ rfl
 have c17:=HG.out.1.at 17 _ rfl
 have c18:=HG.out.1.at 18 _ rfl
 obtain⟨a0,a1⟩:=HG.out.2.1
 obtain⟨b0,b1⟩:=HG.out.2.2.1
 go_wp2_with (refine zac rfl _ rfl w.heap.size x rfl HG.out.1 ?_)
 go_at_call 22
 refine (CK.out _).mono ?_
 rintro e w1 ⟨rfl,hb⟩
 replace HG:=hid (HG.out.below hb)
 replace HW:=hid (HW.out.trans (hb.mono HW.out.size))
 clear hb c0 c5 c7 c9 c10 c11 c12 c13 c17 c18 a0 a1 b0 b1
 have c0:=HG.out.1.at 0 _ rfl
 have c5:=HG.out.1.at 5 _ rfl
 have c7:=HG.out.1.at 7 _ rfl
 have c9:=HG.out.1.at 9 _ rfl
 have c10:=HG.out.1.at 10 _ rfl
 have c11:=HG.out.1.at 11 _ rfl
 have c12:=HG.out.1.at 12 _ rfl
 have c13:=HG.out.1.at 13 _ rfl
 have c17:=HG.out.1.at 17 _ rfl
 have c18:=HG.out.1.at 18 _ rfl
 obtain⟨a0,a1⟩:=HG.out.2.1
 obtain⟨b0,b1⟩:=HG.out.2.2.1
 go_wp2_with (refine zac rfl _ rfl w.heap.size x rfl HG.out.1 ?_)
 go_at_call 31
 refine (CS.out _).mono ?_
 rintro e w2 ⟨rfl,hw1⟩
 have hb:=zch hw1
 clear hw1
 replace HG:=hid (HG.out.below hb)
 replace HW:=hid (HW.out.trans (hb.mono HW.out.size))
 clear hb c0 c5 c7 c9 c10 c11 c12 c13 c17 c18 a0 a1 b0 b1
 have c0:=HG.out.1.at 0 _ rfl
 have c5:=HG.out.1.at 5 _ rfl
 have c7:=HG.out.1.at 7 _ rfl
 have c9:=HG.out.1.at 9 _ rfl
 have c10:=HG.out.1.at 10 _ rfl
 have c11:=HG.out.1.at 11 _ rfl
 have c12:=HG.out.1.at 12 _ rfl
 have c13:=HG.out.1.at 13 _ rfl
 have c17:=HG.out.1.at 17 _ rfl
 have c18:=HG.out.1.at 18 _ rfl
 obtain⟨a0,a1⟩:=HG.out.2.1
 obtain⟨b0,b1⟩:=HG.out.2.2.1
 go_wp2_with (refine zac rfl _ rfl w.heap.size x rfl HG.out.1 ?_)
 go_at_call 32
 refine (CR.out _ HW.out).mono ?_
 rintro e w3 ⟨rfl,m3,hw3⟩
 have hb:=quiet_b hw3
 clear hw3
 replace HG:=hid (HG.out.below hb)
 replace HW:=hid (HW.out.trans (hb.mono HW.out.size))
 clear hb c0 c5 c7 c9 c10 c11 c12 c13 c17 c18 a0 a1 b0 b1
 have c0:=HG.out.1.at 0 _ rfl
 have c5:=HG.out.1.at 5 _ rfl
 have c7:=HG.out.1.at 7 _ rfl
 have c9:=HG.out.1.at 9 _ rfl
 have c10:=HG.out.1.at 10 _ rfl
 have c11:=HG.out.1.at 11 _ rfl
 have c12:=HG.out.1.at 12 _ rfl
 have c13:=HG.out.1.at 13 _ rfl
 have c17:=HG.out.1.at 17 _ rfl
 have c18:=HG.out.1.at 18 _ rfl
 obtain⟨a0,a1⟩:=HG.out.2.1
 obtain⟨b0,b1⟩:=HG.out.2.2.1
 go_wp2_with (refine zac rfl _ rfl w.heap.size x rfl HG.out.1 ?_)
 go_at_call 50
 refine (CA.out _).mono ?_
 rintro e w4 ⟨rfl,hb⟩
 replace HG:=hid (HG.out.below hb)
 replace HW:=hid (HW.out.trans (hb.mono HW.out.size))
 clear hb c0 c5 c7 c9 c10 c11 c12 c13 c17 c18 a0 a1 b0 b1
 have c0:=HG.out.1.at 0 _ rfl
 have c5:=HG.out.1.at 5 _ rfl
 have c7:=HG.out.1.at 7 _ rfl
 have c9:=HG.out.1.at 9 _ rfl
 have c10:=HG.out.1.at 10 _ rfl
 have c11:=HG.out.1.at 11 _ rfl
 have c12:=HG.out.1.at 12 _ rfl
 have c13:=HG.out.1.at 13 _ rfl
 have c17:=HG.out.1.at 17 _ rfl
 have c18:=HG.out.1.at 18 _ rfl
 obtain⟨a0,a1⟩:=HG.out.2.1
 obtain⟨b0,b1⟩:=HG.out.2.2.1
 obtain⟨⟨z0,z1⟩,z2,z3⟩:=HG.out.2.2.2.1
 go_wp2_with (refine zac rfl _ rfl w.heap.size x rfl HG.out.1 ?_)
 refine bodyPost_ret (Kit.zaa rfl _ _ (w.heap.size+3) 0 [.int .i8 (ra),.int .i8 (rb)] _ rfl (Kit.zaq (by go_cell) (by go_cell)) Tryz.underlying70 rfl (by kernel_rfl)) rfl ?_
 exact⟨rfl,(HW.out.setCell (p:=⟨w.heap.size+3,0,none⟩) (by simp) _).setCell (p:=⟨w.heap.size+3,1,none⟩) (by simp) _⟩
theorem rgn_sum3y {w:World} (x:Nd) (l h l2 h2:Int) (bd:(-128≤l∧l≤127)∧(-128≤h∧h≤127)∧(-128≤l2∧l2≤127)∧(-128≤h2∧h2≤127)) (ok:NBd x.Z x.Y x.m1 x.z1 x.m2 x.z2 x.lo x.hi) (ws bs:List Int) (hL:NdL w w.heap.size x ws bs) (hW2:x.nW≤20000) (hB2:x.nB≤20000) (he:x.checkZ=0) (hk:x.kd=3) (hlh:l≤h) (hs:1≤x.nB∧x.nW % x.nB=0) (hf:fitB (lsW ws bs x.nW x.nB l h x.Z (decide (0 < x.P))) (grW ws bs x.nW x.nB l h x.Z (decide (0 < x.P)))=true) :
  Calls Tryz.prog 30 #[.agg x.val,.agg #[.int .i8 l,.int .i8 h],.agg #[.int .i8 l2,.int .i8 h2]] w fun e w'=>e=.returned (.tuple #[.agg #[.int .i8 (min (heldZ (c32 (lsW ws bs x.nW x.nB l h x.Z (decide (0 < x.P)))) x.m1 x.s1 x.z1 x.lo x.hi) (heldZ (c32 (grW ws bs x.nW x.nB l h x.Z (decide (0 < x.P)))) x.m1 x.s1 x.z1 x.lo x.hi)),.int .i8 (max (heldZ (c32 (lsW ws bs x.nW x.nB l h x.Z (decide (0 < x.P)))) x.m1 x.s1 x.z1 x.lo x.hi) (heldZ (c32 (grW ws bs x.nW x.nB l h x.Z (decide (0 < x.P)))) x.m1 x.s1 x.z1 x.lo x.hi))],.int .i64 (0)])∧Below w.heap.size w w':=by
 obtain⟨hg0,hw0⟩:=zau.new w x l h l2 h2
 have HG:=hid hg0
 have HW:=hid hw0
 have hck:=zar x
 unfold zbh at hck
 rw [he] at hck
 have dlh:decide (h < l)=false:=by simp;omega
 have dlh2:¬ h < l:=by omega
 have dk1:(x.kd == 1)=false:=by simp [hk]
 have dk2:(x.kd == 2)=false:=by simp [hk]
 have dk3:(x.kd == 3)=true:=by simp [hk]
 have dk6:(x.kd == 6)=false:=by simp [hk]
 have dk7:(x.kd == 7)=false:=by simp [hk]
 have dk8:(x.kd == 8)=false:=by simp [hk]
 have CS:=hid (fun w:World=>zbc x.WA x.BA x.nW x.cW x.nB x.cB (by omega) (by omega) w)
 rw [show decide (1≤x.nB∧x.nW % x.nB=0)=true by simp only [hs,and_self,decide_true]] at CS
 obtain⟨g,hg⟩:∃ g,decide (0 < x.P)=g:=⟨_,rfl⟩
 have CR:=hid (fun (w':World) (a:Below w.heap.size w w')=>zcd x.WA x.BA x.nW x.cW x.nB x.cB ws bs hL.lw hL.lb hL.iw hL.ib hL.cw.1 hL.cw.2 hW2 hB2 l h x.Z bd.1.1 bd.1.2 bd.2.1.1 bd.2.1.2 ok.1.1 ok.1.2 g (x.nW / x.nB) (za4 hs) hs.1 (lsW ws bs x.nW x.nB l h x.Z g) (grW ws bs x.nW x.nB l h x.Z g) rfl rfl w' ((hL.rw.below a).more a.size) ((hL.rb.below a).more a.size))
 rw [hg] at hf
 rw [hf] at CR
 rw [hg]
 generalize lsW ws bs x.nW x.nB l h x.Z g=X at CR ⊢
 generalize grW ws bs x.nW x.nB l h x.Z g=Y at CR ⊢
 have CA:=hid (fun w:World=>zcg (X) (Y) x.m1 x.s1 x.z1 x.lo x.hi ok.2.2.1.1 ok.2.2.1.2 ok.2.2.2.1.1 ok.2.2.2.1.2 ok.2.2.2.2.2.2.1.1 ok.2.2.2.2.2.2.1.2 ok.2.2.2.2.2.2.2.1 ok.2.2.2.2.2.2.2.2 w)
 generalize min (heldZ (c32 (X)) x.m1 x.s1 x.z1 x.lo x.hi) (heldZ (c32 (Y)) x.m1 x.s1 x.z1 x.lo x.hi)=ra at CA ⊢
 generalize max (heldZ (c32 (X)) x.m1 x.s1 x.z1 x.lo x.hi) (heldZ (c32 (Y)) x.m1 x.s1 x.z1 x.lo x.hi)=rb at CA ⊢
 have dp0:decide (x.P > 0)=g:=hg
 have CK:=hid hck
 clear hg0 hw0 hck he hk hs hL hW2 hB2 hf
 go_enter Tryz.func30,Tryz.ntmps30
 go_upto_region 1 with fail
 generalize ((((w.alloc (.cells x.val 61)).alloc (.cells #[.int .i8 l,.int .i8 h] 70)).alloc (.cells #[.int .i8 l2,.int .i8 h2] 70)).alloc (.cells #[.int .i8 0,.int .i8 0] 70))=W0 at HG HW ⊢
 have c0:=HG.out.1.at 0 _ rfl
 have c5:=HG.out.1.at 5 _ rfl
 have c7:=HG.out.1.at 7 _ rfl
 have c9:=HG.out.1.at 9 _ rfl
 have c10:=HG.out.1.at 10 _ rfl
 have c11:=HG.out.1.at 11 _ rfl
 have c12:=HG.out.1.at 12 _ rfl
 have c13:=HG.out.1.at 13 _ rfl
 have c17:=HG.out.1.at 17 _ rfl
 have c18:=HG.out.1.at 18 _ rfl
 obtain⟨a0,a1⟩:=HG.out.2.1
 obtain⟨b0,b1⟩:=HG.out.2.2.1
 go_wp2_with (refine zac rfl _ rfl w.heap.size x rfl HG.out.1 ?_)
 go_at_call 22
 refine (CK.out _).mono ?_
 rintro e w1 ⟨rfl,hb⟩
 replace HG:=hid (HG.out.below hb)
 replace HW:=hid (HW.out.trans (hb.mono HW.out.size))
 clear hb c0 c5 c7 c9 c10 c11 c12 c13 c17 c18 a0 a1 b0 b1
 have c0:=HG.out.1.at 0 _ rfl
 have c5:=HG.out.1.at 5 _ rfl
 have c7:=HG.out.1.at 7 _ rfl
 have c9:=HG.out.1.at 9 _ rfl
 have c10:=HG.out.1.at 10 _ rfl
 have c11:=HG.out.1.at 11 _ rfl
 have c12:=HG.out.1.at 12 _ rfl
 have c13:=HG.out.1.at 13 _ rfl
 have c17:=HG.out.1.at 17 _ rfl
 have c18:=HG.out.1.at 18 _ rfl
 obtain⟨a0,a1⟩:=HG.out.2.1
 obtain⟨b0,b1⟩:=HG.out.2.2.1
 go_wp2_with (refine zac rfl _ rfl w.heap.size x rfl HG.out.1 ?_)
 go_at_call 31
 refine (CS.out _).mono ?_
 rintro e w2 ⟨rfl,hw1⟩
 have hb:=zch hw1
 clear hw1
 replace HG:=hid (HG.out.below hb)
 replace HW:=hid (HW.out.trans (hb.mono HW.out.size))
 clear hb c0 c5 c7 c9 c10 c11 c12 c13 c17 c18 a0 a1 b0 b1
 have c0:=HG.out.1.at 0 _ rfl
 have c5:=HG.out.1.at 5 _ rfl
 have c7:=HG.out.1.at 7 _ rfl
 have c9:=HG.out.1.at 9 _ rfl
 have c10:=HG.out.1.at 10 _ rfl
 have c11:=HG.out.1.at 11 _ rfl
 have c12:=HG.out.1.at 12 _ rfl
 have c13:=HG.out.1.at 13 _ rfl
 have c17:=HG.out.1.at 17 _ rfl
 have c18:=HG.out.1.at 18 _ rfl
 obtain⟨a0,a1⟩:=HG.out.2.1
 obtain⟨b0,b1⟩:=HG.out.2.2.1
 go_wp2_with (refine zac rfl _ rfl w.heap.size x rfl HG.out.1 ?_)
 go_at_call 32
 refine (CR.out _ HW.out).mono ?_
 rintro e w3 ⟨rfl,m3,hw3⟩
 have hb:=quiet_b hw3
 clear hw3
 replace HG:=hid (HG.out.below hb)
 replace HW:=hid (HW.out.trans (hb.mono HW.out.size))
 clear hb c0 c5 c7 c9 c10 c11 c12 c13 c17 c18 a0 a1 b0 b1
 have c0:=HG.out.1.at 0 _ rfl
 have c5:=HG.out.1.at 5 _ rfl
 have c7:=HG.out.1.at 7 _ rfl
 have c9:=HG.out.1.at 9 _ rfl
 have c10:=HG.out.1.at 10 _ rfl
 have c11:=HG.out.1.at 11 _ rfl
 have c12:=HG.out.1.at 12 _ rfl
 have c13:=HG.out.1.at 13 _ rfl
 have c17:=HG.out.1.at 17 _ rfl
 have c18:=HG.out.1.at 18 _ rfl
 obtain⟨a0,a1⟩:=HG.out.2.1
 obtain⟨b0,b1⟩:=HG.out.2.2.1
 go_wp2_with (refine zac rfl _ rfl w.heap.size x rfl HG.out.1 ?_)
 go_at_call 50
 refine (CA.out _).mono ?_
 rintro e w4 ⟨rfl,hb⟩
 replace HG:=hid (HG.out.below hb)
 replace HW:=hid (HW.out.trans (hb.mono HW.out.size))
 clear hb c0 c5 c7 c9 c10 c11 c12 c13 c17 c18 a0 a1 b0 b1
 have c0:=HG.out.1.at 0 _ rfl
 have c5:=HG.out.1.at 5 _ rfl
 have c7:=HG.out.1.at 7 _ rfl
 have c9:=HG.out.1.at 9 _ rfl
 have c10:=HG.out.1.at 10 _ rfl
 have c11:=HG.out.1.at 11 _ rfl
 have c12:=HG.out.1.at 12 _ rfl
 have c13:=HG.out.1.at 13 _ rfl
 have c17:=HG.out.1.at 17 _ rfl
 have c18:=HG.out.1.at 18 _ rfl
 obtain⟨a0,a1⟩:=HG.out.2.1
 obtain⟨b0,b1⟩:=HG.out.2.2.1
 obtain⟨⟨z0,z1⟩,z2,z3⟩:=HG.out.2.2.2.1
 go_wp2_with (refine zac rfl _ rfl w.heap.size x rfl HG.out.1 ?_)
 refine bodyPost_ret (Kit.zaa rfl _ _ (w.heap.size+3) 0 [.int .i8 (ra),.int .i8 (rb)] _ rfl (Kit.zaq (by go_cell) (by go_cell)) Tryz.underlying70 rfl (by kernel_rfl)) rfl ?_
 exact⟨rfl,(HW.out.setCell (p:=⟨w.heap.size+3,0,none⟩) (by simp) _).setCell (p:=⟨w.heap.size+3,1,none⟩) (by simp) _⟩
theorem rgn_act {w:World} (x:Nd) (l h l2 h2:Int) (bd:(-128≤l∧l≤127)∧(-128≤h∧h≤127)∧(-128≤l2∧l2≤127)∧(-128≤h2∧h2≤127)) (ok:NBd x.Z x.Y x.m1 x.z1 x.m2 x.z2 x.lo x.hi) (he:x.checkZ=0) (hk:x.kd=7) (hlh:l≤h) :
  Calls Tryz.prog 30 #[.agg x.val,.agg #[.int .i8 l,.int .i8 h],.agg #[.int .i8 l2,.int .i8 h2]] w fun e w'=>e=.returned (.tuple #[.agg #[.int .i8 (heldZ (l - x.Z) x.m1 x.s1 x.z1 x.lo x.hi),.int .i8 (heldZ (h - x.Z) x.m1 x.s1 x.z1 x.lo x.hi)],.int .i64 (0)])∧Below w.heap.size w w':=by
 obtain⟨hg0,hw0⟩:=zau.new w x l h l2 h2
 have HG:=hid hg0
 have HW:=hid hw0
 have hck:=zar x
 unfold zbh at hck
 rw [he] at hck
 have dlh:decide (h < l)=false:=by simp;omega
 have dlh2:¬ h < l:=by omega
 have dk1:(x.kd == 1)=false:=by simp [hk]
 have dk2:(x.kd == 2)=false:=by simp [hk]
 have dk3:(x.kd == 3)=false:=by simp [hk]
 have dk6:(x.kd == 6)=false:=by simp [hk]
 have dk7:(x.kd == 7)=true:=by simp [hk]
 have dk8:(x.kd == 8)=false:=by simp [hk]
 have CO1:Hid (∀ w:World,Calls Tryz.prog 52 #[.int .i8 l,.agg x.val] w fun e w'=>e=.returned (.int .i8 (heldZ (l - x.Z) x.m1 x.s1 x.z1 x.lo x.hi))∧Below w.heap.size w w'):=hid (fun w=>CAct.aref_to l bd.1.1 bd.1.2 (.int .i64 x.kd) (.int .i64 x.na) (.int .i64 x.nb) x.K x.S x.P x.O x.Z x.Y x.WA x.BA x.nW x.cW x.nB x.cB x.m1 x.s1 x.z1 x.m2 x.s2 x.z2 x.lo x.hi ok _ rfl w)
 have CO2:Hid (∀ w:World,Calls Tryz.prog 52 #[.int .i8 h,.agg x.val] w fun e w'=>e=.returned (.int .i8 (heldZ (h - x.Z) x.m1 x.s1 x.z1 x.lo x.hi))∧Below w.heap.size w w'):=hid (fun w=>CAct.aref_to h bd.2.1.1 bd.2.1.2 (.int .i64 x.kd) (.int .i64 x.na) (.int .i64 x.nb) x.K x.S x.P x.O x.Z x.Y x.WA x.BA x.nW x.cW x.nB x.cB x.m1 x.s1 x.z1 x.m2 x.s2 x.z2 x.lo x.hi ok _ rfl w)
 generalize heldZ (l - x.Z) x.m1 x.s1 x.z1 x.lo x.hi=ra at CO1 ⊢
 generalize heldZ (h - x.Z) x.m1 x.s1 x.z1 x.lo x.hi=rb at CO2 ⊢
 have CK:=hid hck
 clear hg0 hw0 hck he hk
 go_enter Tryz.func30,Tryz.ntmps30
 go_upto_region 1 with fail
 generalize ((((w.alloc (.cells x.val 61)).alloc (.cells #[.int .i8 l,.int .i8 h] 70)).alloc (.cells #[.int .i8 l2,.int .i8 h2] 70)).alloc (.cells #[.int .i8 0,.int .i8 0] 70))=W0 at HG HW ⊢
 have c0:=HG.out.1.at 0 _ rfl
 have c5:=HG.out.1.at 5 _ rfl
 have c7:=HG.out.1.at 7 _ rfl
 have c9:=HG.out.1.at 9 _ rfl
 have c10:=HG.out.1.at 10 _ rfl
 have c11:=HG.out.1.at 11 _ rfl
 have c12:=HG.out.1.at 12 _ rfl
 have c13:=HG.out.1.at 13 _ rfl
 have c17:=HG.out.1.at 17 _ rfl
 have c18:=HG.out.1.at 18 _ rfl
 obtain⟨a0,a1⟩:=HG.out.2.1
 obtain⟨b0,b1⟩:=HG.out.2.2.1
 go_wp2_with (refine zac rfl _ rfl w.heap.size x rfl HG.out.1 ?_)
 go_at_call 22
 refine (CK.out _).mono ?_
 rintro e w1 ⟨rfl,hb⟩
 replace HG:=hid (HG.out.below hb)
 replace HW:=hid (HW.out.trans (hb.mono HW.out.size))
 clear hb c0 c5 c7 c9 c10 c11 c12 c13 c17 c18 a0 a1 b0 b1
 have c0:=HG.out.1.at 0 _ rfl
 have c5:=HG.out.1.at 5 _ rfl
 have c7:=HG.out.1.at 7 _ rfl
 have c9:=HG.out.1.at 9 _ rfl
 have c10:=HG.out.1.at 10 _ rfl
 have c11:=HG.out.1.at 11 _ rfl
 have c12:=HG.out.1.at 12 _ rfl
 have c13:=HG.out.1.at 13 _ rfl
 have c17:=HG.out.1.at 17 _ rfl
 have c18:=HG.out.1.at 18 _ rfl
 obtain⟨a0,a1⟩:=HG.out.2.1
 obtain⟨b0,b1⟩:=HG.out.2.2.1
 go_upto_region 17 with (refine zac rfl _ rfl w.heap.size x rfl HG.out.1 ?_)
 have HSZ:=hid HG.out.2.2.2.2
 have HFR:=hid HG.out.2.2.2.1
 refine wp_region_held_drew (S:=fun w'=>NdAt w.heap.size x w'∧RchAt (w.heap.size+1) l h w'∧RchAt (w.heap.size+2) l2 h2 w') (by kernel_rfl) ⟨HG.out.1,HG.out.2.1,HG.out.2.2.1⟩ (fun hHeld=>?_)
 replace HSZ:Hid (w.heap.size+4≤w1.drew.heap.size):=hid HSZ.out
 replace HFR:=hid (HFR.out.below (B':=w1.heap.size) (by have:=HSZ.out;simp at this;omega) (Below.refl _ _).drew)
 replace HW:=hid HW.out.drew
 clear HG c0 c5 c7 c9 c10 c11 c12 c13 c17 c18 a0 a1 b0 b1
 generalize w1.drew=Wd at HSZ HFR HW hHeld ⊢
 refine Tk.x 0 rfl ?_
 try simp only [Tk.put]
 refine Tk.y 1 (v:=.int .i8 l) rfl ?_ ?_
 ·intro wS hSw
  obtain⟨-,⟨q1,q2⟩,⟨q3,q4⟩⟩:=hSw
  first | (go_simp;done) | (go_simp;with_reducible rfl)
 try simp only [Tk.put]
 refine Tk.t 2 (v:=.agg x.val) rfl (zav _ rfl (by rfl) _ x rfl (fun _ q=>q.1)) (by assumption) ?_
 try simp only [Tk.put]
 refine Tk.x 4 rfl ?_
 try simp only [Tk.put]
 refine Tk.y 5 (v:=.int .i8 h) rfl ?_ ?_
 ·intro wS hSw
  obtain⟨-,⟨q1,q2⟩,⟨q3,q4⟩⟩:=hSw
  first | (go_simp;done) | (go_simp;with_reducible rfl)
 try simp only [Tk.put]
 refine Tk.t 6 (v:=.agg x.val) rfl (zav _ rfl (by rfl) _ x rfl (fun _ q=>q.1)) (by assumption) ?_
 try simp only [Tk.put]
 refine Tk.s 3 rfl (fun K hK=>?_)
 go_simp
 go_at_call 52
 with_reducible refine (CO1.out _).mono ?_
 rintro e w2 ⟨rfl,hb⟩
 have hS2:=And.intro (hHeld.1.below (B:=Wd.heap.size) (by have:=HSZ.out;omega) hb) (And.intro (hHeld.2.1.below (B':=Wd.heap.size) (by have:=HSZ.out;omega) hb) (hHeld.2.2.below (B':=Wd.heap.size) (by have:=HSZ.out;omega) hb))
 replace HFR:=hid (HFR.out.below (B':=Wd.heap.size) (by have:=HSZ.out;omega) hb)
 replace HW:=hid (HW.out.trans (hb.mono HW.out.size))
 replace HSZ:=hid (Nat.le_trans HSZ.out hb.size)
 clear hb hHeld
 dsimp only
 refine hK.out _ _ hS2 (fun hHeld=>?_)
 clear hK K hS2
 try simp only [Tk.put]
 refine Tk.s 7 rfl (fun K hK=>?_)
 go_simp
 go_at_call 52
 with_reducible refine (CO2.out _).mono ?_
 rintro e w3 ⟨rfl,hb⟩
 have hS2:=And.intro (hHeld.1.below (B:=w2.heap.size) (by have:=HSZ.out;omega) hb) (And.intro (hHeld.2.1.below (B':=w2.heap.size) (by have:=HSZ.out;omega) hb) (hHeld.2.2.below (B':=w2.heap.size) (by have:=HSZ.out;omega) hb))
 replace HFR:=hid (HFR.out.below (B':=w2.heap.size) (by have:=HSZ.out;omega) hb)
 replace HW:=hid (HW.out.trans (hb.mono HW.out.size))
 replace HSZ:=hid (Nat.le_trans HSZ.out hb.size)
 clear hb hHeld
 dsimp only
 refine hK.out _ _ hS2 (fun hHeld=>?_)
 clear hK K hS2
 try simp only [Tk.put]
 refine Tk.x 8 rfl ?_
 try simp only [Tk.put]
 obtain⟨⟨z0,z1⟩,z2,z3⟩:=HFR.out
 refine Tk.s 9 rfl (fun K hK=>?_)
 go_simp
 refine hK.out _ _ ?_ (fun hHeld=>?_)
 ·exact⟨zcf (zcf hHeld.1 (by omega)) (by omega),za9 (za9 hHeld.2.1 (by omega)) (by omega),za9 (za9 hHeld.2.2 (by omega)) (by omega)⟩
 clear hK K
 try simp only [Tk.put]
 refine Tk.x 10 rfl ?_
 try simp only [Tk.put]
 refine wpAnyH_done (by kernel_rfl) ?_ _
 clear hHeld
 go_wp2_with fail
 refine bodyPost_ret (Kit.zaa rfl _ _ (w.heap.size+3) 0 [.int .i8 (ra),.int .i8 (rb)] _ rfl (Kit.zaq (by go_cell) (by go_cell)) Tryz.underlying70 rfl (by kernel_rfl)) rfl ?_
 exact⟨rfl,(HW.out.setCell (p:=⟨w.heap.size+3,0,none⟩) (by simp) _).setCell (p:=⟨w.heap.size+3,1,none⟩) (by simp) _⟩
end CGuard
end
end Go.Proofs.YtoffcaldhojjoaaGreatDoor
