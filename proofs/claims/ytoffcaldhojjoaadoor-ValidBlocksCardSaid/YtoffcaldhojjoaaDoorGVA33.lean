/- -/
import Derived.Test.YtoffcaldhojjoaaDoorGVA32
open Go.Lib (hid)
open Nat (le_refl lt_of_succ_lt lt_succ_self)
set_option linter.unusedVariables false
set_option linter.unusedSimpArgs false
set_option maxRecDepth 100000
set_option maxHeartbeats 16000000
namespace Go.Proofs.YtoffcaldhojjoaaDoor
namespace CConv
end CConv
namespace CFix
end CFix
namespace CGraph
end CGraph
namespace CKind
end CKind
namespace CSat
end CSat
namespace CSpan
end CSpan
namespace CTensor
end CTensor
open Go Go.ChangeShapes Go.WideShapes Go.ChangeAt Go.RowKit Go.Deep
section
namespace CGuard
open Plain CSat CFix CShape CTensor CConv CSpan CKind CGraph CJoin
theorem rgn_chk {w:World} (x:Nd) (l h l2 h2:Int) (bd:(-128≤l∧l≤127)∧(-128≤h∧h≤127)∧(-128≤l2∧l2≤127)∧(-128≤h2∧h2≤127)) (ok:NBd x.Z x.Y x.m1 x.z1 x.m2 x.z2 x.lo x.hi) (er:Int) (he:x.checkZ=er) (hne:er≠0) :
  Calls Tryd.prog 27 #[.agg x.val,.agg #[.int .i8 l,.int .i8 h],.agg #[.int .i8 l2,.int .i8 h2]] w fun e w'=>e=.returned (.tuple #[.agg #[.int .i8 (0),.int .i8 (0)],.int .i64 (er)])∧Below w.heap.size w w':=by
 obtain⟨hg0,hw0⟩:=zat.new w x l h l2 h2
 have HG:=hid hg0
 have HW:=hid hw0
 have hck:=zar x
 unfold zbg at hck
 rw [he] at hck
 have n1:(er != 0)=true:=by simpa using hne
 have CK:=hid hck
 clear hg0 hw0 hck he
 go_enter Tryd.func27,Tryd.ntmps27
 go_upto_region 1 with fail
 generalize ((((w.alloc (.cells x.val 67)).alloc (.cells #[.int .i8 l,.int .i8 h] 61)).alloc (.cells #[.int .i8 l2,.int .i8 h2] 61)).alloc (.cells #[.int .i8 0,.int .i8 0] 61))=W0 at HG HW ⊢
 have c0:=HG.out.1.at 0 _ rfl
 have c5:=HG.out.1.at 5 _ rfl
 have c7:=HG.out.1.at 7 _ rfl
 have c9:=HG.out.1.at 9 _ rfl
 have c10:=HG.out.1.at 10 _ rfl
 have c11:=HG.out.1.at 11 _ rfl
 have c12:=HG.out.1.at 12 _ rfl
 have c13:=HG.out.1.at 13 _ rfl
 have c17:=HG.out.1.at 17 _ rfl
 have c18:=HG.out.1.at 18 _ rfl
 obtain⟨a0,a1⟩:=HG.out.2.1
 obtain⟨b0,b1⟩:=HG.out.2.2.1
 go_wp2_with (refine zac rfl _ rfl w.heap.size x rfl HG.out.1 ?_)
 go_at_call 23
 refine (CK.out _).mono ?_
 rintro e w1 ⟨rfl,hb⟩
 replace HG:=hid (HG.out.below hb)
 replace HW:=hid (HW.out.trans (hb.mono HW.out.size))
 clear hb c0 c5 c7 c9 c10 c11 c12 c13 c17 c18 a0 a1 b0 b1
 have c0:=HG.out.1.at 0 _ rfl
 have c5:=HG.out.1.at 5 _ rfl
 have c7:=HG.out.1.at 7 _ rfl
 have c9:=HG.out.1.at 9 _ rfl
 have c10:=HG.out.1.at 10 _ rfl
 have c11:=HG.out.1.at 11 _ rfl
 have c12:=HG.out.1.at 12 _ rfl
 have c13:=HG.out.1.at 13 _ rfl
 have c17:=HG.out.1.at 17 _ rfl
 have c18:=HG.out.1.at 18 _ rfl
 obtain⟨a0,a1⟩:=HG.out.2.1
 obtain⟨b0,b1⟩:=HG.out.2.2.1
 obtain⟨⟨z0,z1⟩,z2,z3⟩:=HG.out.2.2.2.1
 go_wp2_with (refine zac rfl _ rfl w.heap.size x rfl HG.out.1 ?_)
 refine bodyPost_ret (Kit.zaa rfl _ _ (w.heap.size+3) 0 [.int .i8 (0),.int .i8 (0)] _ rfl (Kit.zaq (by go_cell) (by go_cell)) Tryd.underlying61 rfl (by kernel_rfl)) rfl ?_
 exact⟨rfl,(HW.out.setCell (p:=⟨w.heap.size+3,0,none⟩) (by simp) _).setCell (p:=⟨w.heap.size+3,1,none⟩) (by simp) _⟩
theorem rgn_arg {w:World} (x:Nd) (l h l2 h2:Int) (bd:(-128≤l∧l≤127)∧(-128≤h∧h≤127)∧(-128≤l2∧l2≤127)∧(-128≤h2∧h2≤127)) (ok:NBd x.Z x.Y x.m1 x.z1 x.m2 x.z2 x.lo x.hi) (he:x.checkZ=0) (hlh:h < l) :
  Calls Tryd.prog 27 #[.agg x.val,.agg #[.int .i8 l,.int .i8 h],.agg #[.int .i8 l2,.int .i8 h2]] w fun e w'=>e=.returned (.tuple #[.agg #[.int .i8 (0),.int .i8 (0)],.int .i64 (2)])∧Below w.heap.size w w':=by
 obtain⟨hg0,hw0⟩:=zat.new w x l h l2 h2
 have HG:=hid hg0
 have HW:=hid hw0
 have hck:=zar x
 unfold zbg at hck
 rw [he] at hck
 have dlh:decide (h < l)=true:=by simp [hlh]
 have CK:=hid hck
 clear hg0 hw0 hck he hlh
 go_enter Tryd.func27,Tryd.ntmps27
 go_upto_region 1 with fail
 generalize ((((w.alloc (.cells x.val 67)).alloc (.cells #[.int .i8 l,.int .i8 h] 61)).alloc (.cells #[.int .i8 l2,.int .i8 h2] 61)).alloc (.cells #[.int .i8 0,.int .i8 0] 61))=W0 at HG HW ⊢
 have c0:=HG.out.1.at 0 _ rfl
 have c5:=HG.out.1.at 5 _ rfl
 have c7:=HG.out.1.at 7 _ rfl
 have c9:=HG.out.1.at 9 _ rfl
 have c10:=HG.out.1.at 10 _ rfl
 have c11:=HG.out.1.at 11 _ rfl
 have c12:=HG.out.1.at 12 _ rfl
 have c13:=HG.out.1.at 13 _ rfl
 have c17:=HG.out.1.at 17 _ rfl
 have c18:=HG.out.1.at 18 _ rfl
 obtain⟨a0,a1⟩:=HG.out.2.1
 obtain⟨b0,b1⟩:=HG.out.2.2.1
 go_wp2_with (refine zac rfl _ rfl w.heap.size x rfl HG.out.1 ?_)
 go_at_call 23
 refine (CK.out _).mono ?_
 rintro e w1 ⟨rfl,hb⟩
 replace HG:=hid (HG.out.below hb)
 replace HW:=hid (HW.out.trans (hb.mono HW.out.size))
 clear hb c0 c5 c7 c9 c10 c11 c12 c13 c17 c18 a0 a1 b0 b1
 have c0:=HG.out.1.at 0 _ rfl
 have c5:=HG.out.1.at 5 _ rfl
 have c7:=HG.out.1.at 7 _ rfl
 have c9:=HG.out.1.at 9 _ rfl
 have c10:=HG.out.1.at 10 _ rfl
 have c11:=HG.out.1.at 11 _ rfl
 have c12:=HG.out.1.at 12 _ rfl
 have c13:=HG.out.1.at 13 _ rfl
 have c17:=HG.out.1.at 17 _ rfl
 have c18:=HG.out.1.at 18 _ rfl
 obtain⟨a0,a1⟩:=HG.out.2.1
 obtain⟨b0,b1⟩:=HG.out.2.2.1
 go_upto_region 4 with (refine zac rfl _ rfl w.heap.size x rfl HG.out.1 ?_)
 refine wp_region_lit ?_
 iterate 6 (refine wpList_plain rfl (fun K hK=>?_);go_simp;refine hK _ _ ?_;clear hK K;try simp only [Tk.put])
 go_skip
 obtain⟨⟨z0,z1⟩,z2,z3⟩:=HG.out.2.2.2.1
 go_wp2_with (refine zac rfl _ rfl w.heap.size x rfl HG.out.1 ?_)
 refine bodyPost_ret (Kit.zaa rfl _ _ (w.heap.size+3) 0 [.int .i8 (0),.int .i8 (0)] _ rfl (Kit.zaq (by go_cell) (by go_cell)) Tryd.underlying61 rfl (by kernel_rfl)) rfl ?_
 exact⟨rfl,(HW.out.setCell (p:=⟨w.heap.size+3,0,none⟩) (by simp) _).setCell (p:=⟨w.heap.size+3,1,none⟩) (by simp) _⟩
theorem rgn_same4 {w:World} (x:Nd) (l h l2 h2:Int) (bd:(-128≤l∧l≤127)∧(-128≤h∧h≤127)∧(-128≤l2∧l2≤127)∧(-128≤h2∧h2≤127)) (ok:NBd x.Z x.Y x.m1 x.z1 x.m2 x.z2 x.lo x.hi) (he:x.checkZ=0) (hk:x.kd=4) (hlh:l≤h) :
  Calls Tryd.prog 27 #[.agg x.val,.agg #[.int .i8 l,.int .i8 h],.agg #[.int .i8 l2,.int .i8 h2]] w fun e w'=>e=.returned (.tuple #[.agg #[.int .i8 (l),.int .i8 (h)],.int .i64 (0)])∧Below w.heap.size w w':=by
 obtain⟨hg0,hw0⟩:=zat.new w x l h l2 h2
 have HG:=hid hg0
 have HW:=hid hw0
 have hck:=zar x
 unfold zbg at hck
 rw [he] at hck
 have dlh:decide (h < l)=false:=by simp;omega
 have dlh2:¬ h < l:=by omega
 have dk1:(x.kd == 1)=false:=by simp [hk]
 have dk2:(x.kd == 2)=false:=by simp [hk]
 have dk3:(x.kd == 3)=false:=by simp [hk]
 have dk6:(x.kd == 6)=false:=by simp [hk]
 have dk7:(x.kd == 7)=false:=by simp [hk]
 have dk8:(x.kd == 8)=false:=by simp [hk]
 have CK:=hid hck
 clear hg0 hw0 hck he hk
 go_enter Tryd.func27,Tryd.ntmps27
 go_upto_region 1 with fail
 generalize ((((w.alloc (.cells x.val 67)).alloc (.cells #[.int .i8 l,.int .i8 h] 61)).alloc (.cells #[.int .i8 l2,.int .i8 h2] 61)).alloc (.cells #[.int .i8 0,.int .i8 0] 61))=W0 at HG HW ⊢
 have c0:=HG.out.1.at 0 _ rfl
 have c5:=HG.out.1.at 5 _ rfl
 have c7:=HG.out.1.at 7 _ rfl
 have c9:=HG.out.1.at 9 _ rfl
 have c10:=HG.out.1.at 10 _ rfl
 have c11:=HG.out.1.at 11 _ rfl
 have c12:=HG.out.1.at 12 _ rfl
 have c13:=HG.out.1.at 13 _ rfl
 have c17:=HG.out.1.at 17 _ rfl
 have c18:=HG.out.1.at 18 _ rfl
 obtain⟨a0,a1⟩:=HG.out.2.1
 obtain⟨b0,b1⟩:=HG.out.2.2.1
 go_wp2_with (refine zac rfl _ rfl w.heap.size x rfl HG.out.1 ?_)
 go_at_call 23
 refine (CK.out _).mono ?_
 rintro e w1 ⟨rfl,hb⟩
 replace HG:=hid (HG.out.below hb)
 replace HW:=hid (HW.out.trans (hb.mono HW.out.size))
 clear hb c0 c5 c7 c9 c10 c11 c12 c13 c17 c18 a0 a1 b0 b1
 have c0:=HG.out.1.at 0 _ rfl
 have c5:=HG.out.1.at 5 _ rfl
 have c7:=HG.out.1.at 7 _ rfl
 have c9:=HG.out.1.at 9 _ rfl
 have c10:=HG.out.1.at 10 _ rfl
 have c11:=HG.out.1.at 11 _ rfl
 have c12:=HG.out.1.at 12 _ rfl
 have c13:=HG.out.1.at 13 _ rfl
 have c17:=HG.out.1.at 17 _ rfl
 have c18:=HG.out.1.at 18 _ rfl
 obtain⟨a0,a1⟩:=HG.out.2.1
 obtain⟨b0,b1⟩:=HG.out.2.2.1
 obtain⟨⟨z0,z1⟩,z2,z3⟩:=HG.out.2.2.2.1
 go_wp2_with (refine zac rfl _ rfl w.heap.size x rfl HG.out.1 ?_)
 refine bodyPost_ret (Kit.zaa rfl _ _ (w.heap.size+3) 0 [.int .i8 (l),.int .i8 (h)] _ rfl (Kit.zaq (by go_cell) (by go_cell)) Tryd.underlying61 rfl (by kernel_rfl)) rfl ?_
 exact⟨rfl,(HW.out.setCell (p:=⟨w.heap.size+3,0,none⟩) (by simp) _).setCell (p:=⟨w.heap.size+3,1,none⟩) (by simp) _⟩
theorem rgn_sum2o {w:World} (x:Nd) (l h l2 h2:Int) (bd:(-128≤l∧l≤127)∧(-128≤h∧h≤127)∧(-128≤l2∧l2≤127)∧(-128≤h2∧h2≤127)) (ok:NBd x.Z x.Y x.m1 x.z1 x.m2 x.z2 x.lo x.hi) (ws bs:List Int) (hL:NdL w w.heap.size x ws bs) (hW2:x.nW≤20000) (hB2:x.nB≤20000) (he:x.checkZ=0) (hk:x.kd=2) (hlh:l≤h) (hs:1≤x.nB∧x.nW % x.nB=0) (hf:fitB (lsW ws bs x.nW x.nB l h x.Z (decide (0 < x.P))) (grW ws bs x.nW x.nB l h x.Z (decide (0 < x.P)))=false) :
  Calls Tryd.prog 27 #[.agg x.val,.agg #[.int .i8 l,.int .i8 h],.agg #[.int .i8 l2,.int .i8 h2]] w fun e w'=>e=.returned (.tuple #[.agg #[.int .i8 (0),.int .i8 (0)],.int .i64 (10)])∧Below w.heap.size w w':=by
 obtain⟨hg0,hw0⟩:=zat.new w x l h l2 h2
 have HG:=hid hg0
 have HW:=hid hw0
 have hck:=zar x
 unfold zbg at hck
 rw [he] at hck
 have dlh:decide (h < l)=false:=by simp;omega
 have dlh2:¬ h < l:=by omega
 have dk1:(x.kd == 1)=false:=by simp [hk]
 have dk2:(x.kd == 2)=true:=by simp [hk]
 have dk3:(x.kd == 3)=false:=by simp [hk]
 have dk6:(x.kd == 6)=false:=by simp [hk]
 have dk7:(x.kd == 7)=false:=by simp [hk]
 have dk8:(x.kd == 8)=false:=by simp [hk]
 have CS:=hid (fun w:World=>zbc x.WA x.BA x.nW x.cW x.nB x.cB (by omega) (by omega) w)
 rw [show decide (1≤x.nB∧x.nW % x.nB=0)=true by simp only [hs,and_self,decide_true]] at CS
 obtain⟨g,hg⟩:∃ g,decide (0 < x.P)=g:=⟨_,rfl⟩
 have CR:=hid (fun (w':World) (a:Below w.heap.size w w')=>zcc x.WA x.BA x.nW x.cW x.nB x.cB ws bs hL.lw hL.lb hL.iw hL.ib hL.cw.1 hL.cw.2 hW2 hB2 l h x.Z bd.1.1 bd.1.2 bd.2.1.1 bd.2.1.2 ok.1.1 ok.1.2 g (x.nW / x.nB) (za2 hs) hs.1 (lsW ws bs x.nW x.nB l h x.Z g) (grW ws bs x.nW x.nB l h x.Z g) rfl rfl w' ((hL.rw.below a).more a.size) ((hL.rb.below a).more a.size))
 rw [hg] at hf
 rw [hf] at CR
 generalize lsW ws bs x.nW x.nB l h x.Z g=X at CR
 generalize grW ws bs x.nW x.nB l h x.Z g=Y at CR
 have dp0:decide (x.P > 0)=g:=hg
 have CK:=hid hck
 clear hg0 hw0 hck he hk hs hL hW2 hB2 hf
 go_enter Tryd.func27,Tryd.ntmps27
 go_upto_region 1 with fail
 generalize ((((w.alloc (.cells x.val 67)).alloc (.cells #[.int .i8 l,.int .i8 h] 61)).alloc (.cells #[.int .i8 l2,.int .i8 h2] 61)).alloc (.cells #[.int .i8 0,.int .i8 0] 61))=W0 at HG HW ⊢
 have c0:=HG.out.1.at 0 _ rfl
 have c5:=HG.out.1.at 5 _ rfl
 have c7:=HG.out.1.at 7 _ rfl
 have c9:=HG.out.1.at 9 _ rfl
 have c10:=HG.out.1.at 10 _ rfl
 have c11:=HG.out.1.at 11 _ rfl
 have c12:=HG.out.1.at 12 _ rfl
 have c13:=HG.out.1.at 13 _ rfl
 have c17:=HG.out.1.at 17 _ rfl
 have c18:=HG.out.1.at 18 _ rfl
 obtain⟨a0,a1⟩:=HG.out.2.1
 obtain⟨b0,b1⟩:=HG.out.2.2.1
 go_wp2_with (refine zac rfl _ rfl w.heap.size x rfl HG.out.1 ?_)
 go_at_call 23
 refine (CK.out _).mono ?_
 rintro e w1 ⟨rfl,hb⟩
 replace HG:=hid (HG.out.below hb)
 replace HW:=hid (HW.out.trans (hb.mono HW.out.size))
 clear hb c0 c5 c7 c9 c10 c11 c12 c13 c17 c18 a0 a1 b0 b1
 have c0:=HG.out.1.at 0 _ rfl
 have c5:=HG.out.1.at 5 _ rfl
 have c7:=HG.out.1.at 7 _ rfl
 have c9:=HG.out.1.at 9 _ rfl
 have c10:=HG.out.1.at 10 _ rfl
 have c11:=HG.out.1.at 11 _ rfl
 have c12:=HG.out.1.at 12 _ rfl
 have c13:=HG.out.1.at 13 _ rfl
 have c17:=HG.out.1.at 17 _ rfl
 have c18:=HG.out.1.at 18 _ rfl
 obtain⟨a0,a1⟩:=HG.out.2.1
 obtain⟨b0,b1⟩:=HG.out.2.2.1
 go_wp2_with (refine zac rfl _ rfl w.heap.size x rfl HG.out.1 ?_)
 go_at_call 28
 refine (CS.out _).mono ?_
 rintro e w2 ⟨rfl,hw1⟩
 have hb:=zcg hw1
 clear hw1
 replace HG:=hid (HG.out.below hb)
 replace HW:=hid (HW.out.trans (hb.mono HW.out.size))
 clear hb c0 c5 c7 c9 c10 c11 c12 c13 c17 c18 a0 a1 b0 b1
 have c0:=HG.out.1.at 0 _ rfl
 have c5:=HG.out.1.at 5 _ rfl
 have c7:=HG.out.1.at 7 _ rfl
 have c9:=HG.out.1.at 9 _ rfl
 have c10:=HG.out.1.at 10 _ rfl
 have c11:=HG.out.1.at 11 _ rfl
 have c12:=HG.out.1.at 12 _ rfl
 have c13:=HG.out.1.at 13 _ rfl
 have c17:=HG.out.1.at 17 _ rfl
 have c18:=HG.out.1.at 18 _ rfl
 obtain⟨a0,a1⟩:=HG.out.2.1
 obtain⟨b0,b1⟩:=HG.out.2.2.1
 go_wp2_with (refine zac rfl _ rfl w.heap.size x rfl HG.out.1 ?_)
 go_at_call 29
 refine (CR.out _ HW.out).mono ?_
 rintro e w3 ⟨rfl,m3,hw3⟩
 have hb:=quiet_b hw3
 clear hw3
 replace HG:=hid (HG.out.below hb)
 replace HW:=hid (HW.out.trans (hb.mono HW.out.size))
 clear hb c0 c5 c7 c9 c10 c11 c12 c13 c17 c18 a0 a1 b0 b1
 have c0:=HG.out.1.at 0 _ rfl
 have c5:=HG.out.1.at 5 _ rfl
 have c7:=HG.out.1.at 7 _ rfl
 have c9:=HG.out.1.at 9 _ rfl
 have c10:=HG.out.1.at 10 _ rfl
 have c11:=HG.out.1.at 11 _ rfl
 have c12:=HG.out.1.at 12 _ rfl
 have c13:=HG.out.1.at 13 _ rfl
 have c17:=HG.out.1.at 17 _ rfl
 have c18:=HG.out.1.at 18 _ rfl
 obtain⟨a0,a1⟩:=HG.out.2.1
 obtain⟨b0,b1⟩:=HG.out.2.2.1
 obtain⟨⟨z0,z1⟩,z2,z3⟩:=HG.out.2.2.2.1
 go_wp2_with (refine zac rfl _ rfl w.heap.size x rfl HG.out.1 ?_)
 refine bodyPost_ret (Kit.zaa rfl _ _ (w.heap.size+3) 0 [.int .i8 (0),.int .i8 (0)] _ rfl (Kit.zaq (by go_cell) (by go_cell)) Tryd.underlying61 rfl (by kernel_rfl)) rfl ?_
 exact⟨rfl,(HW.out.setCell (p:=⟨w.heap.size+3,0,none⟩) (by simp) _).setCell (p:=⟨w.heap.size+3,1,none⟩) (by simp) _⟩
theorem rgn_sum3o {w:World} (x:Nd) (l h l2 h2:Int) (bd:(-128≤l∧l≤127)∧(-128≤h∧h≤127)∧(-128≤l2∧l2≤127)∧(-128≤h2∧h2≤127)) (ok:NBd x.Z x.Y x.m1 x.z1 x.m2 x.z2 x.lo x.hi) (ws bs:List Int) (hL:NdL w w.heap.size x ws bs) (hW2:x.nW≤20000) (hB2:x.nB≤20000) (he:x.checkZ=0) (hk:x.kd=3) (hlh:l≤h) (hs:1≤x.nB∧x.nW % x.nB=0) (hf:fitB (lsW ws bs x.nW x.nB l h x.Z (decide (0 < x.P))) (grW ws bs x.nW x.nB l h x.Z (decide (0 < x.P)))=false) :
  Calls Tryd.prog 27 #[.agg x.val,.agg #[.int .i8 l,.int .i8 h],.agg #[.int .i8 l2,.int .i8 h2]] w fun e w'=>e=.returned (.tuple #[.agg #[.int .i8 (0),.int .i8 (0)],.int .i64 (10)])∧Below w.heap.size w w':=by
 obtain⟨hg0,hw0⟩:=zat.new w x l h l2 h2
 have HG:=hid hg0
 have HW:=hid hw0
 have hck:=zar x
 unfold zbg at hck
 rw [he] at hck
 have dlh:decide (h < l)=false:=by simp;omega
 have dlh2:¬ h < l:=by omega
 have dk1:(x.kd == 1)=false:=by simp [hk]
 have dk2:(x.kd == 2)=false:=by simp [hk]
 have dk3:(x.kd == 3)=true:=by simp [hk]
 have dk6:(x.kd == 6)=false:=by simp [hk]
 have dk7:(x.kd == 7)=false:=by simp [hk]
 have dk8:(x.kd == 8)=false:=by simp [hk]
 have CS:=hid (fun w:World=>zbc x.WA x.BA x.nW x.cW x.nB x.cB (by omega) (by omega) w)
 rw [show decide (1≤x.nB∧x.nW % x.nB=0)=true by simp only [hs,and_self,decide_true]] at CS
 obtain⟨g,hg⟩:∃ g,decide (0 < x.P)=g:=⟨_,rfl⟩
 have CR:=hid (fun (w':World) (a:Below w.heap.size w w')=>zcc x.WA x.BA x.nW x.cW x.nB x.cB ws bs hL.lw hL.lb hL.iw hL.ib hL.cw.1 hL.cw.2 hW2 hB2 l h x.Z bd.1.1 bd.1.2 bd.2.1.1 bd.2.1.2 ok.1.1 ok.1.2 g (x.nW / x.nB) (za2 hs) hs.1 (lsW ws bs x.nW x.nB l h x.Z g) (grW ws bs x.nW x.nB l h x.Z g) rfl rfl w' ((hL.rw.below a).more a.size) ((hL.rb.below a).more a.size))
 rw [hg] at hf
 rw [hf] at CR
 generalize lsW ws bs x.nW x.nB l h x.Z g=X at CR
 generalize grW ws bs x.nW x.nB l h x.Z g=Y at CR
 have dp0:decide (x.P > 0)=g:=hg
 have CK:=hid hck
 clear hg0 hw0 hck he hk hs hL hW2 hB2 hf
 go_enter Tryd.func27,Tryd.ntmps27
 go_upto_region 1 with fail
 generalize ((((w.alloc (.cells x.val 67)).alloc (.cells #[.int .i8 l,.int .i8 h] 61)).alloc (.cells #[.int .i8 l2,.int .i8 h2] 61)).alloc (.cells #[.int .i8 0,.int .i8 0] 61))=W0 at HG HW ⊢
 have c0:=HG.out.1.at 0 _ rfl
 have c5:=HG.out.1.at 5 _ rfl
 have c7:=HG.out.1.at 7 _ rfl
 have c9:=HG.out.1.at 9 _ rfl
 have c10:=HG.out.1.at 10 _ rfl
 have c11:=HG.out.1.at 11 _ rfl
 have c12:=HG.out.1.at 12 _ rfl
 have c13:=HG.out.1.at 13 _ rfl
 have c17:=HG.out.1.at 17 _ rfl
 have c18:=HG.out.1.at 18 _ rfl
 obtain⟨a0,a1⟩:=HG.out.2.1
 obtain⟨b0,b1⟩:=HG.out.2.2.1
 go_wp2_with (refine zac rfl _ rfl w.heap.size x rfl HG.out.1 ?_)
 go_at_call 23
 refine (CK.out _).mono ?_
 rintro e w1 ⟨rfl,hb⟩
 replace HG:=hid (HG.out.below hb)
 replace HW:=hid (HW.out.trans (hb.mono HW.out.size))
 clear hb c0 c5 c7 c9 c10 c11 c12 c13 c17 c18 a0 a1 b0 b1
 have c0:=HG.out.1.at 0 _ rfl
 have c5:=HG.out.1.at 5 _ rfl
 have c7:=HG.out.1.at 7 _ rfl
 have c9:=HG.out.1.at 9 _ rfl
 have c10:=HG.out.1.at 10 _ rfl
 have c11:=HG.out.1.at 11 _ rfl
 have c12:=HG.out.1.at 12 _ rfl
 have c13:=HG.out.1.at 13 _ rfl
 have c17:=HG.out.1.at 17 _ rfl
 have c18:=HG.out.1.at 18 _ rfl
 obtain⟨a0,a1⟩:=HG.out.2.1
 obtain⟨b0,b1⟩:=HG.out.2.2.1
 go_wp2_with (refine zac rfl _ rfl w.heap.size x rfl HG.out.1 ?_)
 go_at_call 28
 refine (CS.out _).mono ?_
 rintro e w2 ⟨rfl,hw1⟩
 have hb:=zcg hw1
 clear hw1
 replace HG:=hid (HG.out.below hb)
 replace HW:=hid (HW.out.trans (hb.mono HW.out.size))
 clear hb c0 c5 c7 c9 c10 c11 c12 c13 c17 c18 a0 a1 b0 b1
 have c0:=HG.out.1.at 0 _ rfl
 have c5:=HG.out.1.at 5 _ rfl
 have c7:=HG.out.1.at 7 _ rfl
 have c9:=HG.out.1.at 9 _ rfl
 have c10:=HG.out.1.at 10 _ rfl
 have c11:=HG.out.1.at 11 _ rfl
 have c12:=HG.out.1.at 12 _ rfl
 have c13:=HG.out.1.at 13 _ rfl
 have c17:=HG.out.1.at 17 _ rfl
 have c18:=HG.out.1.at 18 _ rfl
 obtain⟨a0,a1⟩:=HG.out.2.1
 obtain⟨b0,b1⟩:=HG.out.2.2.1
 go_wp2_with (refine zac rfl _ rfl w.heap.size x rfl HG.out.1 ?_)
 go_at_call 29
 refine (CR.out _ HW.out).mono ?_
 rintro e w3 ⟨rfl,m3,hw3⟩
 have hb:=quiet_b hw3
 clear hw3
 replace HG:=hid (HG.out.below hb)
 replace HW:=hid (HW.out.trans (hb.mono HW.out.size))
 clear hb c0 c5 c7 c9 c10 c11 c12 c13 c17 c18 a0 a1 b0 b1
 have c0:=HG.out.1.at 0 _ rfl
 have c5:=HG.out.1.at 5 _ rfl
 have c7:=HG.out.1.at 7 _ rfl
 have c9:=HG.out.1.at 9 _ rfl
 have c10:=HG.out.1.at 10 _ rfl
 have c11:=HG.out.1.at 11 _ rfl
 have c12:=HG.out.1.at 12 _ rfl
 have c13:=HG.out.1.at 13 _ rfl
 have c17:=HG.out.1.at 17 _ rfl
 have c18:=HG.out.1.at 18 _ rfl
 obtain⟨a0,a1⟩:=HG.out.2.1
 obtain⟨b0,b1⟩:=HG.out.2.2.1
 obtain⟨⟨z0,z1⟩,z2,z3⟩:=HG.out.2.2.2.1
 go_wp2_with (refine zac rfl _ rfl w.heap.size x rfl HG.out.1 ?_)
 refine bodyPost_ret (Kit.zaa rfl _ _ (w.heap.size+3) 0 [.int .i8 (0),.int .i8 (0)] _ rfl (Kit.zaq (by go_cell) (by go_cell)) Tryd.underlying61 rfl (by kernel_rfl)) rfl ?_
 exact⟨rfl,(HW.out.setCell (p:=⟨w.heap.size+3,0,none⟩) (by simp) _).setCell (p:=⟨w.heap.size+3,1,none⟩) (by simp) _⟩
end CGuard
end
section
namespace CSpan
open Go Go.ChangeShapes Go.WideShapes Go.ChangeAt Go.RowKit
open Plain CSat CFix CShape CTensor CConv
def pairV (P Q:Nat→Int):Nat→List Value
 | 0=>[]
 | n+1=>pairV P Q n ++ [.int .i64 (P n),.int .i64 (Q n)]
theorem pairV_len (P Q:Nat→Int) (n:Nat):(pairV P Q n).length=n * 2:=by
 induction n with
 | zero=>rfl
 | succ n ih=>simp only [pairV,List.length_append,ih,List.length_cons,List.length_nil];omega
theorem zb5 (P Q:Nat→Int) {n k:Nat} (h:k < n):(pairV P Q n)[k * 2]?=some (.int .i64 (P k))∧(pairV P Q n)[k * 2+1]?=some (.int .i64 (Q k)):=by
 induction n with
 | zero=>omega
 | succ n ih =>
   have hl:=pairV_len P Q n
   by_cases e:k=n
   ·subst e
    simp only [pairV]
    rw [List.getElem?_append_right (by omega),List.getElem?_append_right (by omega),hl,Nat.sub_self,show k * 2+1 - k * 2=1 by omega]
    exact⟨rfl,rfl⟩
   ·obtain⟨h1,h2⟩:=ih (by omega)
    simp only [pairV]
    rw [List.getElem?_append_left (by omega),List.getElem?_append_left (by omega)]
    exact⟨h1,h2⟩
theorem rd_pair {w:World} {B:Nat} {A:Option Addr} {P Q:Nat→Int} {n:Nat} (h:Kit.Rd w B A (pairV P Q n)) (hn:0 < n) :
  ∃ b o,A=some ⟨b,o,none⟩∧b < B∧∀ k,k < n→w.cell? ⟨b,o+k * 2,none⟩=some (.int .i64 (P k))∧w.cell? ⟨b,o+k * 2+1,none⟩=some (.int .i64 (Q k)):=by
 obtain⟨b,o,e,hb,hc⟩:=h.plain (by rw [pairV_len];omega)
 exact⟨b,o,e,hb,fun k hk=>⟨hc _ _ (zb5 P Q hk).1,by rw [Nat.add_assoc];exact hc _ _ (zb5 P Q hk).2⟩⟩
def holdF (P Q:Nat→Int):Nat→Bool
 | 0=>true
 | k+1=>holdF P Q k && (decide (-2147483648≤P k) && decide (Q k≤2147483647))
theorem holdF_iff (P Q:Nat→Int) (n:Nat):holdF P Q n=true↔∀ k,k < n → -2147483648≤P k∧Q k≤2147483647:=by
 induction n with
 | zero=>simp [holdF]
 | succ n ih =>
   simp only [holdF,Bool.and_eq_true,decide_eq_true_eq,ih]
   constructor
   ·intro h k hk
    by_cases e:k=n
    ·subst e;exact h.2
    ·exact h.1 k (by omega)
   ·intro h
    exact⟨fun k hk=>h k (by omega),h n (by omega)⟩
def loF (P:Nat→Int):Nat→Int
 | 0=>0
 | k+1=>min (if k=0 then P 0 else loF P k) (P k)
def hiF (Q:Nat→Int):Nat→Int
 | 0=>0
 | k+1=>max (if k=0 then Q 0 else hiF Q k) (Q k)
theorem loF_one (P:Nat→Int):loF P 1=P 0:=by simp [loF]
theorem hiF_one (Q:Nat→Int):hiF Q 1=Q 0:=by simp [hiF]
theorem loF_more (P:Nat→Int) {k:Nat} (h:0 < k):loF P (k+1)=min (loF P k) (P k):=by simp only [loF];rw [if_neg (by omega)]
theorem hiF_more (Q:Nat→Int) {k:Nat} (h:0 < k):hiF Q (k+1)=max (hiF Q k) (Q k):=by simp only [hiF];rw [if_neg (by omega)]
end CSpan
end
end Go.Proofs.YtoffcaldhojjoaaDoor
