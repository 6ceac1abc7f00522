/- -/
import Derived.Test.YtfgdfignoakkaaaGreatDoorGBT28
open Go.Lib (hid)
open Nat (le_refl lt_of_succ_lt lt_succ_self)
set_option linter.unusedVariables false
set_option linter.unusedSimpArgs false
set_option maxRecDepth 100000
set_option maxHeartbeats 16000000
namespace Go.Proofs.YtfgdfignoakkaaaGreatDoor
namespace CConv
end CConv
namespace CFix
end CFix
namespace CGraph
end CGraph
namespace CJoin
end CJoin
namespace CKind
end CKind
namespace CSat
end CSat
namespace CShape
end CShape
namespace CSpan
end CSpan
namespace CTensor
end CTensor
open Go Go.ChangeShapes Go.WideShapes Go.ChangeAt Go.RowKit Go.Deep
section
namespace CGuard
open Plain CSat CFix CShape CTensor CConv CSpan CKind CGraph CJoin
theorem za7.newC (w:World) (x:Nd) (l h l2 h2:Int):za7 w.heap.size x l h l2 h2 ((((w.alloc (.cells x.val 54)).alloc (.cells #[.int .i8 l,.int .i8 h] 172)).alloc (.cells #[.int .i8 l2,.int .i8 h2] 172)).alloc (.cells #[.int .i8 0,.int .i8 0] 172))∧Below w.heap.size w ((((w.alloc (.cells x.val 54)).alloc (.cells #[.int .i8 l,.int .i8 h] 172)).alloc (.cells #[.int .i8 l2,.int .i8 h2] 172)).alloc (.cells #[.int .i8 0,.int .i8 0] 172)):=by
 have b4:Below (w.heap.size+3) (((w.alloc (.cells x.val 54)).alloc (.cells #[.int .i8 l,.int .i8 h] 172)).alloc (.cells #[.int .i8 l2,.int .i8 h2] 172)) ((((w.alloc (.cells x.val 54)).alloc (.cells #[.int .i8 l,.int .i8 h] 172)).alloc (.cells #[.int .i8 l2,.int .i8 h2] 172)).alloc (.cells #[.int .i8 0,.int .i8 0] 172)):=(Below.refl _ _).alloc (by simp) _
 have b3:Below (w.heap.size+2) ((w.alloc (.cells x.val 54)).alloc (.cells #[.int .i8 l,.int .i8 h] 172)) ((((w.alloc (.cells x.val 54)).alloc (.cells #[.int .i8 l,.int .i8 h] 172)).alloc (.cells #[.int .i8 l2,.int .i8 h2] 172)).alloc (.cells #[.int .i8 0,.int .i8 0] 172)):=((Below.refl _ _).alloc (by simp) _).trans (b4.mono (by omega))
 have b2:Below (w.heap.size+1) (w.alloc (.cells x.val 54)) ((((w.alloc (.cells x.val 54)).alloc (.cells #[.int .i8 l,.int .i8 h] 172)).alloc (.cells #[.int .i8 l2,.int .i8 h2] 172)).alloc (.cells #[.int .i8 0,.int .i8 0] 172)):=((Below.refl _ _).alloc (by simp) _).trans (b3.mono (by omega))
 have b1:Below w.heap.size w ((((w.alloc (.cells x.val 54)).alloc (.cells #[.int .i8 l,.int .i8 h] 172)).alloc (.cells #[.int .i8 l2,.int .i8 h2] 172)).alloc (.cells #[.int .i8 0,.int .i8 0] 172)):=((Below.refl _ _).alloc (le_refl _) _).trans (b2.mono (by omega))
 have q2:=rchNew l h 172 (w.alloc (.cells x.val 54))
 have q3:=rchNew l2 h2 172 ((w.alloc (.cells x.val 54)).alloc (.cells #[.int .i8 l,.int .i8 h] 172))
 have q4:=FreshR.new 172 (((w.alloc (.cells x.val 54)).alloc (.cells #[.int .i8 l,.int .i8 h] 172)).alloc (.cells #[.int .i8 l2,.int .i8 h2] 172))
 simp only [World.size_alloc] at q2 q3 q4
 exact⟨⟨(NdAt.new x 54 w).below (lt_succ_self _) b2,q2.below (lt_succ_self _) b3,q3.below (lt_succ_self _) b4,q4,by simp⟩,b1⟩
theorem cgn_chk {w:World} (x:Nd) (hx:x.Small) (hT:zad w) (l h l2 h2:Int) (bd:(-128≤l∧l≤127)∧(-128≤h∧h≤127)∧(-128≤l2∧l2≤127)∧(-128≤h2∧h2≤127)) (ok:NBd x.Z x.Y x.m1 x.z1 x.m2 x.z2 x.lo x.hi) (er:Int) (he:x.checkZ=er) (hne:er≠0) :
  Calls Tryz.prog 149 #[.agg x.val,.agg #[.int .i8 l,.int .i8 h],.agg #[.int .i8 l2,.int .i8 h2]] w fun e w'=>e=.returned (.tuple #[.agg #[.int .i8 (0),.int .i8 (0)],.int .i64 (er)])∧Below w.heap.size w w':=by
 obtain⟨hg0,hw0⟩:=za7.newC w x l h l2 h2
 have HG:=hid hg0
 have HW:=hid hw0
 have HT:=hid hT
 have hck:=fun (w:World) (hT:zad w)=>zay x hx w hT
 rw [he] at hck
 have n1:(er != 0)=true:=by simpa using hne
 have CK:=hid hck
 clear hg0 hw0 hck hT he
 go_enter Tryz.func149,Tryz.ntmps149
 go_upto_region 1 with fail
 generalize (((w.alloc (.cells x.val 54)).alloc (.cells #[.int .i8 l,.int .i8 h] 172)).alloc (.cells #[.int .i8 l2,.int .i8 h2] 172)).alloc (.cells #[.int .i8 0,.int .i8 0] 172)=W0 at HG HW ⊢
 have c0:=HG.out.1.at 0 _ rfl
 have c5:=HG.out.1.at 5 _ rfl
 have c7:=HG.out.1.at 7 _ rfl
 obtain⟨a0,a1⟩:=HG.out.2.1
 obtain⟨b0,b1⟩:=HG.out.2.2.1
 go_wp2_with (refine zac rfl _ rfl w.heap.size x rfl HG.out.1 ?_)
 go_at_call 144
 refine (CK.out _ (HT.out.grown HW.out)).mono ?_
 rintro e w1 ⟨rfl,hb⟩
 replace HG:=hid (HG.out.below hb)
 replace HW:=hid (HW.out.trans (hb.mono HW.out.size))
 clear hb c0 c5 c7 a0 a1 b0 b1
 have c0:=HG.out.1.at 0 _ rfl
 have c5:=HG.out.1.at 5 _ rfl
 have c7:=HG.out.1.at 7 _ rfl
 obtain⟨a0,a1⟩:=HG.out.2.1
 obtain⟨b0,b1⟩:=HG.out.2.2.1
 obtain⟨⟨z0,z1⟩,z2,z3⟩:=HG.out.2.2.2.1
 go_wp2_with (refine zac rfl _ rfl w.heap.size x rfl HG.out.1 ?_)
 refine bodyPost_ret (Kit.zaa rfl _ _ (w.heap.size+3) 0 [.int .i8 (0),.int .i8 (0)] _ rfl (Kit.zar (by go_cell) (by go_cell)) Tryz.underlying172 rfl (by kernel_rfl)) rfl ?_
 exact⟨rfl,(HW.out.setCell (p:=⟨w.heap.size+3,0,none⟩) (Nat.le_add_right _ _) _).setCell (p:=⟨w.heap.size+3,1,none⟩) (Nat.le_add_right _ _) _⟩
theorem cgn_same4 {w:World} (x:Nd) (hx:x.Small) (hT:zad w) (l h l2 h2:Int) (bd:(-128≤l∧l≤127)∧(-128≤h∧h≤127)∧(-128≤l2∧l2≤127)∧(-128≤h2∧h2≤127)) (ok:NBd x.Z x.Y x.m1 x.z1 x.m2 x.z2 x.lo x.hi) (he:x.checkZ=0) (hk:x.kd=4) (hlh:l≤h) :
  Calls Tryz.prog 149 #[.agg x.val,.agg #[.int .i8 l,.int .i8 h],.agg #[.int .i8 l2,.int .i8 h2]] w fun e w'=>e=.returned (.tuple #[.agg #[.int .i8 (l),.int .i8 (h)],.int .i64 (0)])∧Below w.heap.size w w':=by
 obtain⟨hg0,hw0⟩:=za7.newC w x l h l2 h2
 have HG:=hid hg0
 have HW:=hid hw0
 have HT:=hid hT
 have hck:=fun (w:World) (hT:zad w)=>zay x hx w hT
 rw [he] at hck
 have CE1:=hid (fun w:World=>zbb l h w)
 rw [show decide (h < l)=false by simp;omega] at CE1
 have dk1:(x.kd == 1)=false:=by simp [hk]
 have dk2:(x.kd == 2)=false:=by simp [hk]
 have dk3:(x.kd == 3)=false:=by simp [hk]
 have dk6:(x.kd == 6)=false:=by simp [hk]
 have dk7:(x.kd == 7)=false:=by simp [hk]
 have dk8:(x.kd == 8)=false:=by simp [hk]
 have CK:=hid hck
 clear hg0 hw0 hck hT he hk hlh
 go_enter Tryz.func149,Tryz.ntmps149
 go_upto_region 1 with fail
 generalize (((w.alloc (.cells x.val 54)).alloc (.cells #[.int .i8 l,.int .i8 h] 172)).alloc (.cells #[.int .i8 l2,.int .i8 h2] 172)).alloc (.cells #[.int .i8 0,.int .i8 0] 172)=W0 at HG HW ⊢
 have c0:=HG.out.1.at 0 _ rfl
 have c5:=HG.out.1.at 5 _ rfl
 have c7:=HG.out.1.at 7 _ rfl
 obtain⟨a0,a1⟩:=HG.out.2.1
 obtain⟨b0,b1⟩:=HG.out.2.2.1
 go_wp2_with (refine zac rfl _ rfl w.heap.size x rfl HG.out.1 ?_)
 go_at_call 144
 refine (CK.out _ (HT.out.grown HW.out)).mono ?_
 rintro e w1 ⟨rfl,hb⟩
 replace HG:=hid (HG.out.below hb)
 replace HW:=hid (HW.out.trans (hb.mono HW.out.size))
 clear hb c0 c5 c7 a0 a1 b0 b1
 have c0:=HG.out.1.at 0 _ rfl
 have c5:=HG.out.1.at 5 _ rfl
 have c7:=HG.out.1.at 7 _ rfl
 obtain⟨a0,a1⟩:=HG.out.2.1
 obtain⟨b0,b1⟩:=HG.out.2.2.1
 go_wp2_with (refine zac rfl _ rfl w.heap.size x rfl HG.out.1 ?_)
 go_at_call 130
 refine (CE1.out _).mono ?_
 rintro e w2 ⟨rfl,hb⟩
 replace HG:=hid (HG.out.below hb)
 replace HW:=hid (HW.out.trans (hb.mono HW.out.size))
 clear hb c0 c5 c7 a0 a1 b0 b1
 have c0:=HG.out.1.at 0 _ rfl
 have c5:=HG.out.1.at 5 _ rfl
 have c7:=HG.out.1.at 7 _ rfl
 obtain⟨a0,a1⟩:=HG.out.2.1
 obtain⟨b0,b1⟩:=HG.out.2.2.1
 obtain⟨⟨z0,z1⟩,z2,z3⟩:=HG.out.2.2.2.1
 go_wp2_with (refine zac rfl _ rfl w.heap.size x rfl HG.out.1 ?_)
 refine bodyPost_ret (Kit.zaa rfl _ _ (w.heap.size+3) 0 [.int .i8 (l),.int .i8 (h)] _ rfl (Kit.zar (by go_cell) (by go_cell)) Tryz.underlying172 rfl (by kernel_rfl)) rfl ?_
 exact⟨rfl,(HW.out.setCell (p:=⟨w.heap.size+3,0,none⟩) (Nat.le_add_right _ _) _).setCell (p:=⟨w.heap.size+3,1,none⟩) (Nat.le_add_right _ _) _⟩
theorem cgn_same5 {w:World} (x:Nd) (hx:x.Small) (hT:zad w) (l h l2 h2:Int) (bd:(-128≤l∧l≤127)∧(-128≤h∧h≤127)∧(-128≤l2∧l2≤127)∧(-128≤h2∧h2≤127)) (ok:NBd x.Z x.Y x.m1 x.z1 x.m2 x.z2 x.lo x.hi) (he:x.checkZ=0) (hk:x.kd=5) (hlh:l≤h) :
  Calls Tryz.prog 149 #[.agg x.val,.agg #[.int .i8 l,.int .i8 h],.agg #[.int .i8 l2,.int .i8 h2]] w fun e w'=>e=.returned (.tuple #[.agg #[.int .i8 (l),.int .i8 (h)],.int .i64 (0)])∧Below w.heap.size w w':=by
 obtain⟨hg0,hw0⟩:=za7.newC w x l h l2 h2
 have HG:=hid hg0
 have HW:=hid hw0
 have HT:=hid hT
 have hck:=fun (w:World) (hT:zad w)=>zay x hx w hT
 rw [he] at hck
 have CE1:=hid (fun w:World=>zbb l h w)
 rw [show decide (h < l)=false by simp;omega] at CE1
 have dk1:(x.kd == 1)=false:=by simp [hk]
 have dk2:(x.kd == 2)=false:=by simp [hk]
 have dk3:(x.kd == 3)=false:=by simp [hk]
 have dk6:(x.kd == 6)=false:=by simp [hk]
 have dk7:(x.kd == 7)=false:=by simp [hk]
 have dk8:(x.kd == 8)=false:=by simp [hk]
 have CK:=hid hck
 clear hg0 hw0 hck hT he hk hlh
 go_enter Tryz.func149,Tryz.ntmps149
 go_upto_region 1 with fail
 generalize (((w.alloc (.cells x.val 54)).alloc (.cells #[.int .i8 l,.int .i8 h] 172)).alloc (.cells #[.int .i8 l2,.int .i8 h2] 172)).alloc (.cells #[.int .i8 0,.int .i8 0] 172)=W0 at HG HW ⊢
 have c0:=HG.out.1.at 0 _ rfl
 have c5:=HG.out.1.at 5 _ rfl
 have c7:=HG.out.1.at 7 _ rfl
 obtain⟨a0,a1⟩:=HG.out.2.1
 obtain⟨b0,b1⟩:=HG.out.2.2.1
 go_wp2_with (refine zac rfl _ rfl w.heap.size x rfl HG.out.1 ?_)
 go_at_call 144
 refine (CK.out _ (HT.out.grown HW.out)).mono ?_
 rintro e w1 ⟨rfl,hb⟩
 replace HG:=hid (HG.out.below hb)
 replace HW:=hid (HW.out.trans (hb.mono HW.out.size))
 clear hb c0 c5 c7 a0 a1 b0 b1
 have c0:=HG.out.1.at 0 _ rfl
 have c5:=HG.out.1.at 5 _ rfl
 have c7:=HG.out.1.at 7 _ rfl
 obtain⟨a0,a1⟩:=HG.out.2.1
 obtain⟨b0,b1⟩:=HG.out.2.2.1
 go_wp2_with (refine zac rfl _ rfl w.heap.size x rfl HG.out.1 ?_)
 go_at_call 130
 refine (CE1.out _).mono ?_
 rintro e w2 ⟨rfl,hb⟩
 replace HG:=hid (HG.out.below hb)
 replace HW:=hid (HW.out.trans (hb.mono HW.out.size))
 clear hb c0 c5 c7 a0 a1 b0 b1
 have c0:=HG.out.1.at 0 _ rfl
 have c5:=HG.out.1.at 5 _ rfl
 have c7:=HG.out.1.at 7 _ rfl
 obtain⟨a0,a1⟩:=HG.out.2.1
 obtain⟨b0,b1⟩:=HG.out.2.2.1
 obtain⟨⟨z0,z1⟩,z2,z3⟩:=HG.out.2.2.2.1
 go_wp2_with (refine zac rfl _ rfl w.heap.size x rfl HG.out.1 ?_)
 refine bodyPost_ret (Kit.zaa rfl _ _ (w.heap.size+3) 0 [.int .i8 (l),.int .i8 (h)] _ rfl (Kit.zar (by go_cell) (by go_cell)) Tryz.underlying172 rfl (by kernel_rfl)) rfl ?_
 exact⟨rfl,(HW.out.setCell (p:=⟨w.heap.size+3,0,none⟩) (Nat.le_add_right _ _) _).setCell (p:=⟨w.heap.size+3,1,none⟩) (Nat.le_add_right _ _) _⟩
theorem cgn_pad {w:World} (x:Nd) (hx:x.Small) (hT:zad w) (l h l2 h2:Int) (bd:(-128≤l∧l≤127)∧(-128≤h∧h≤127)∧(-128≤l2∧l2≤127)∧(-128≤h2∧h2≤127)) (ok:NBd x.Z x.Y x.m1 x.z1 x.m2 x.z2 x.lo x.hi) (he:x.checkZ=0) (hk:x.kd=8) (hlh:l≤h) (ra rb:Int) (hB:∀ w:World,Calls Tryz.prog 171 #[.agg x.val,.agg #[.int .i8 l,.int .i8 h]] w fun e w'=>e=.returned (.agg #[.int .i8 ra,.int .i8 rb])∧Below w.heap.size w w') :
  Calls Tryz.prog 149 #[.agg x.val,.agg #[.int .i8 l,.int .i8 h],.agg #[.int .i8 l2,.int .i8 h2]] w fun e w'=>e=.returned (.tuple #[.agg #[.int .i8 (ra),.int .i8 (rb)],.int .i64 (0)])∧Below w.heap.size w w':=by
 obtain⟨hg0,hw0⟩:=za7.newC w x l h l2 h2
 have HG:=hid hg0
 have HW:=hid hw0
 have HT:=hid hT
 have hck:=fun (w:World) (hT:zad w)=>zay x hx w hT
 rw [he] at hck
 have CE1:=hid (fun w:World=>zbb l h w)
 rw [show decide (h < l)=false by simp;omega] at CE1
 have dk1:(x.kd == 1)=false:=by simp [hk]
 have dk2:(x.kd == 2)=false:=by simp [hk]
 have dk3:(x.kd == 3)=false:=by simp [hk]
 have dk6:(x.kd == 6)=false:=by simp [hk]
 have dk7:(x.kd == 7)=false:=by simp [hk]
 have dk8:(x.kd == 8)=true:=by simp [hk]
 have CB:=hid hB
 have CK:=hid hck
 clear hg0 hw0 hck hT he hk hlh hB
 go_enter Tryz.func149,Tryz.ntmps149
 go_upto_region 1 with fail
 generalize (((w.alloc (.cells x.val 54)).alloc (.cells #[.int .i8 l,.int .i8 h] 172)).alloc (.cells #[.int .i8 l2,.int .i8 h2] 172)).alloc (.cells #[.int .i8 0,.int .i8 0] 172)=W0 at HG HW ⊢
 have c0:=HG.out.1.at 0 _ rfl
 have c5:=HG.out.1.at 5 _ rfl
 have c7:=HG.out.1.at 7 _ rfl
 obtain⟨a0,a1⟩:=HG.out.2.1
 obtain⟨b0,b1⟩:=HG.out.2.2.1
 go_wp2_with (refine zac rfl _ rfl w.heap.size x rfl HG.out.1 ?_)
 go_at_call 144
 refine (CK.out _ (HT.out.grown HW.out)).mono ?_
 rintro e w1 ⟨rfl,hb⟩
 replace HG:=hid (HG.out.below hb)
 replace HW:=hid (HW.out.trans (hb.mono HW.out.size))
 clear hb c0 c5 c7 a0 a1 b0 b1
 have c0:=HG.out.1.at 0 _ rfl
 have c5:=HG.out.1.at 5 _ rfl
 have c7:=HG.out.1.at 7 _ rfl
 obtain⟨a0,a1⟩:=HG.out.2.1
 obtain⟨b0,b1⟩:=HG.out.2.2.1
 go_wp2_with (refine zac rfl _ rfl w.heap.size x rfl HG.out.1 ?_)
 go_at_call 130
 refine (CE1.out _).mono ?_
 rintro e w2 ⟨rfl,hb⟩
 replace HG:=hid (HG.out.below hb)
 replace HW:=hid (HW.out.trans (hb.mono HW.out.size))
 clear hb c0 c5 c7 a0 a1 b0 b1
 have c0:=HG.out.1.at 0 _ rfl
 have c5:=HG.out.1.at 5 _ rfl
 have c7:=HG.out.1.at 7 _ rfl
 obtain⟨a0,a1⟩:=HG.out.2.1
 obtain⟨b0,b1⟩:=HG.out.2.2.1
 go_wp2_with (refine zac rfl _ rfl w.heap.size x rfl HG.out.1 ?_)
 go_at_call 171
 refine (CB.out _).mono ?_
 rintro e w3 ⟨rfl,hb⟩
 replace HG:=hid (HG.out.below hb)
 replace HW:=hid (HW.out.trans (hb.mono HW.out.size))
 clear hb c0 c5 c7 a0 a1 b0 b1
 have c0:=HG.out.1.at 0 _ rfl
 have c5:=HG.out.1.at 5 _ rfl
 have c7:=HG.out.1.at 7 _ rfl
 obtain⟨a0,a1⟩:=HG.out.2.1
 obtain⟨b0,b1⟩:=HG.out.2.2.1
 obtain⟨⟨z0,z1⟩,z2,z3⟩:=HG.out.2.2.2.1
 go_wp2_with (refine zac rfl _ rfl w.heap.size x rfl HG.out.1 ?_)
 refine bodyPost_ret (Kit.zaa rfl _ _ (w.heap.size+3) 0 [.int .i8 (ra),.int .i8 (rb)] _ rfl (Kit.zar (by go_cell) (by go_cell)) Tryz.underlying172 rfl (by kernel_rfl)) rfl ?_
 exact⟨rfl,(HW.out.setCell (p:=⟨w.heap.size+3,0,none⟩) (Nat.le_add_right _ _) _).setCell (p:=⟨w.heap.size+3,1,none⟩) (Nat.le_add_right _ _) _⟩
theorem cgn_sum1 {w:World} (x:Nd) (hx:x.Small) (hT:zad w) (l h l2 h2:Int) (bd:(-128≤l∧l≤127)∧(-128≤h∧h≤127)∧(-128≤l2∧l2≤127)∧(-128≤h2∧h2≤127)) (ok:NBd x.Z x.Y x.m1 x.z1 x.m2 x.z2 x.lo x.hi) (he:x.checkZ=0) (hk:x.kd=1) (hlh:l≤h) (ra rb rc:Int) (hB:∀ w':World,Below w.heap.size w w'→Calls Tryz.prog 168 #[.agg x.val,.agg #[.int .i8 l,.int .i8 h]] w' fun e w''=>e=.returned (.tuple #[.agg #[.int .i8 ra,.int .i8 rb],.int .i64 rc])∧Below w'.heap.size w' w'') :
  Calls Tryz.prog 149 #[.agg x.val,.agg #[.int .i8 l,.int .i8 h],.agg #[.int .i8 l2,.int .i8 h2]] w fun e w'=>e=.returned (.tuple #[.agg #[.int .i8 (ra),.int .i8 (rb)],.int .i64 (rc)])∧Below w.heap.size w w':=by
 obtain⟨hg0,hw0⟩:=za7.newC w x l h l2 h2
 have HG:=hid hg0
 have HW:=hid hw0
 have HT:=hid hT
 have hck:=fun (w:World) (hT:zad w)=>zay x hx w hT
 rw [he] at hck
 have CE1:=hid (fun w:World=>zbb l h w)
 rw [show decide (h < l)=false by simp;omega] at CE1
 have dk1:(x.kd == 1)=true:=by simp [hk]
 have dk2:(x.kd == 2)=false:=by simp [hk]
 have dk3:(x.kd == 3)=false:=by simp [hk]
 have dk6:(x.kd == 6)=false:=by simp [hk]
 have dk7:(x.kd == 7)=false:=by simp [hk]
 have dk8:(x.kd == 8)=false:=by simp [hk]
 have CB:=hid hB
 have CK:=hid hck
 clear hg0 hw0 hck hT he hk hlh hB
 go_enter Tryz.func149,Tryz.ntmps149
 go_upto_region 1 with fail
 generalize (((w.alloc (.cells x.val 54)).alloc (.cells #[.int .i8 l,.int .i8 h] 172)).alloc (.cells #[.int .i8 l2,.int .i8 h2] 172)).alloc (.cells #[.int .i8 0,.int .i8 0] 172)=W0 at HG HW ⊢
 have c0:=HG.out.1.at 0 _ rfl
 have c5:=HG.out.1.at 5 _ rfl
 have c7:=HG.out.1.at 7 _ rfl
 obtain⟨a0,a1⟩:=HG.out.2.1
 obtain⟨b0,b1⟩:=HG.out.2.2.1
 go_wp2_with (refine zac rfl _ rfl w.heap.size x rfl HG.out.1 ?_)
 go_at_call 144
 refine (CK.out _ (HT.out.grown HW.out)).mono ?_
 rintro e w1 ⟨rfl,hb⟩
 replace HG:=hid (HG.out.below hb)
 replace HW:=hid (HW.out.trans (hb.mono HW.out.size))
 clear hb c0 c5 c7 a0 a1 b0 b1
 have c0:=HG.out.1.at 0 _ rfl
 have c5:=HG.out.1.at 5 _ rfl
 have c7:=HG.out.1.at 7 _ rfl
 obtain⟨a0,a1⟩:=HG.out.2.1
 obtain⟨b0,b1⟩:=HG.out.2.2.1
 go_wp2_with (refine zac rfl _ rfl w.heap.size x rfl HG.out.1 ?_)
 go_at_call 130
 refine (CE1.out _).mono ?_
 rintro e w2 ⟨rfl,hb⟩
 replace HG:=hid (HG.out.below hb)
 replace HW:=hid (HW.out.trans (hb.mono HW.out.size))
 clear hb c0 c5 c7 a0 a1 b0 b1
 have c0:=HG.out.1.at 0 _ rfl
 have c5:=HG.out.1.at 5 _ rfl
 have c7:=HG.out.1.at 7 _ rfl
 obtain⟨a0,a1⟩:=HG.out.2.1
 obtain⟨b0,b1⟩:=HG.out.2.2.1
 go_wp2_with (refine zac rfl _ rfl w.heap.size x rfl HG.out.1 ?_)
 go_at_call 168
 refine (CB.out _ HW.out).mono ?_
 rintro e w3 ⟨rfl,hb⟩
 replace HG:=hid (HG.out.below hb)
 replace HW:=hid (HW.out.trans (hb.mono HW.out.size))
 clear hb c0 c5 c7 a0 a1 b0 b1
 have c0:=HG.out.1.at 0 _ rfl
 have c5:=HG.out.1.at 5 _ rfl
 have c7:=HG.out.1.at 7 _ rfl
 obtain⟨a0,a1⟩:=HG.out.2.1
 obtain⟨b0,b1⟩:=HG.out.2.2.1
 obtain⟨⟨z0,z1⟩,z2,z3⟩:=HG.out.2.2.2.1
 go_wp2_with (refine zac rfl _ rfl w.heap.size x rfl HG.out.1 ?_)
 refine bodyPost_ret (Kit.zaa rfl _ _ (w.heap.size+3) 0 [.int .i8 (ra),.int .i8 (rb)] _ rfl (Kit.zar (by go_cell) (by go_cell)) Tryz.underlying172 rfl (by kernel_rfl)) rfl ?_
 exact⟨rfl,(HW.out.setCell (p:=⟨w.heap.size+3,0,none⟩) (Nat.le_add_right _ _) _).setCell (p:=⟨w.heap.size+3,1,none⟩) (Nat.le_add_right _ _) _⟩
theorem cgn_act {w:World} (x:Nd) (hx:x.Small) (hT:zad w) (l h l2 h2:Int) (bd:(-128≤l∧l≤127)∧(-128≤h∧h≤127)∧(-128≤l2∧l2≤127)∧(-128≤h2∧h2≤127)) (ok:NBd x.Z x.Y x.m1 x.z1 x.m2 x.z2 x.lo x.hi) (he:x.checkZ=0) (hk:x.kd=7) (hlh:l≤h) :
  Calls Tryz.prog 149 #[.agg x.val,.agg #[.int .i8 l,.int .i8 h],.agg #[.int .i8 l2,.int .i8 h2]] w fun e w'=>e=.returned (.tuple #[.agg #[.int .i8 (heldZ (l - x.Z) x.m1 x.s1 x.z1 x.lo x.hi),.int .i8 (heldZ (h - x.Z) x.m1 x.s1 x.z1 x.lo x.hi)],.int .i64 (0)])∧Below w.heap.size w w':=by
 obtain⟨hg0,hw0⟩:=za7.newC w x l h l2 h2
 have HG:=hid hg0
 have HW:=hid hw0
 have HT:=hid hT
 have hck:=fun (w:World) (hT:zad w)=>zay x hx w hT
 rw [he] at hck
 have CE1:=hid (fun w:World=>zbb l h w)
 rw [show decide (h < l)=false by simp;omega] at CE1
 have dk1:(x.kd == 1)=false:=by simp [hk]
 have dk2:(x.kd == 2)=false:=by simp [hk]
 have dk3:(x.kd == 3)=false:=by simp [hk]
 have dk6:(x.kd == 6)=false:=by simp [hk]
 have dk7:(x.kd == 7)=true:=by simp [hk]
 have dk8:(x.kd == 8)=false:=by simp [hk]
 have CO1:Hid (∀ w:World,Calls Tryz.prog 170 #[.int .i8 l,.agg x.val] w fun e w'=>e=.returned (.int .i8 (heldZ (l - x.Z) x.m1 x.s1 x.z1 x.lo x.hi))∧Below w.heap.size w w'):=hid (fun w=>CAct.aone_to l bd.1.1 bd.1.2 (.int .i64 x.kd) (.int .i64 x.na) (.int .i64 x.nb) x.K x.S x.P x.O x.Z x.Y x.WA x.BA x.nW x.cW x.nB x.cB x.m1 x.s1 x.z1 x.m2 x.s2 x.z2 x.lo x.hi ok _ rfl w)
 have CO2:Hid (∀ w:World,Calls Tryz.prog 170 #[.int .i8 h,.agg x.val] w fun e w'=>e=.returned (.int .i8 (heldZ (h - x.Z) x.m1 x.s1 x.z1 x.lo x.hi))∧Below w.heap.size w w'):=hid (fun w=>CAct.aone_to h bd.2.1.1 bd.2.1.2 (.int .i64 x.kd) (.int .i64 x.na) (.int .i64 x.nb) x.K x.S x.P x.O x.Z x.Y x.WA x.BA x.nW x.cW x.nB x.cB x.m1 x.s1 x.z1 x.m2 x.s2 x.z2 x.lo x.hi ok _ rfl w)
 generalize heldZ (l - x.Z) x.m1 x.s1 x.z1 x.lo x.hi=ra at CO1 ⊢
 generalize heldZ (h - x.Z) x.m1 x.s1 x.z1 x.lo x.hi=rb at CO2 ⊢
 have CK:=hid hck
 clear hg0 hw0 hck hT he hk hlh
 go_enter Tryz.func149,Tryz.ntmps149
 go_upto_region 1 with fail
 generalize (((w.alloc (.cells x.val 54)).alloc (.cells #[.int .i8 l,.int .i8 h] 172)).alloc (.cells #[.int .i8 l2,.int .i8 h2] 172)).alloc (.cells #[.int .i8 0,.int .i8 0] 172)=W0 at HG HW ⊢
 have c0:=HG.out.1.at 0 _ rfl
 have c5:=HG.out.1.at 5 _ rfl
 have c7:=HG.out.1.at 7 _ rfl
 obtain⟨a0,a1⟩:=HG.out.2.1
 obtain⟨b0,b1⟩:=HG.out.2.2.1
 go_wp2_with (refine zac rfl _ rfl w.heap.size x rfl HG.out.1 ?_)
 go_at_call 144
 refine (CK.out _ (HT.out.grown HW.out)).mono ?_
 rintro e w1 ⟨rfl,hb⟩
 replace HG:=hid (HG.out.below hb)
 replace HW:=hid (HW.out.trans (hb.mono HW.out.size))
 clear hb c0 c5 c7 a0 a1 b0 b1
 have c0:=HG.out.1.at 0 _ rfl
 have c5:=HG.out.1.at 5 _ rfl
 have c7:=HG.out.1.at 7 _ rfl
 obtain⟨a0,a1⟩:=HG.out.2.1
 obtain⟨b0,b1⟩:=HG.out.2.2.1
 go_wp2_with (refine zac rfl _ rfl w.heap.size x rfl HG.out.1 ?_)
 go_at_call 130
 refine (CE1.out _).mono ?_
 rintro e w2 ⟨rfl,hb⟩
 replace HG:=hid (HG.out.below hb)
 replace HW:=hid (HW.out.trans (hb.mono HW.out.size))
 clear hb c0 c5 c7 a0 a1 b0 b1
 have c0:=HG.out.1.at 0 _ rfl
 have c5:=HG.out.1.at 5 _ rfl
 have c7:=HG.out.1.at 7 _ rfl
 obtain⟨a0,a1⟩:=HG.out.2.1
 obtain⟨b0,b1⟩:=HG.out.2.2.1
 go_upto_region 14 with (refine zac rfl _ rfl w.heap.size x rfl HG.out.1 ?_)
 have HSZ:=hid HG.out.2.2.2.2
 have HFR:=hid HG.out.2.2.2.1
 refine wp_region_held_drew (S:=fun w'=>NdAt w.heap.size x w'∧RchAt (w.heap.size+1) l h w'∧RchAt (w.heap.size+2) l2 h2 w') (by kernel_rfl) ⟨HG.out.1,HG.out.2.1,HG.out.2.2.1⟩ (fun hHeld=>?_)
 replace HSZ:Hid (w.heap.size+4≤w2.drew.heap.size):=hid HSZ.out
 replace HFR:=hid (HFR.out.below (B':=w2.heap.size) (by have:=HSZ.out;simp at this;omega) (Below.refl _ _).drew)
 replace HW:=hid HW.out.drew
 clear HG c0 c5 c7 a0 a1 b0 b1
 generalize w2.drew=Wd at HSZ HFR HW hHeld ⊢
 refine Tk.x 0 rfl ?_
 try simp only [Tk.put]
 refine Tk.y 1 (v:=.int .i8 l) rfl ?_ ?_
 ·intro wS hSw
  obtain⟨-,⟨q1,q2⟩,⟨q3,q4⟩⟩:=hSw
  first | (go_simp;done) | (go_simp;with_reducible rfl)
 try simp only [Tk.put]
 refine Tk.t 2 (v:=.agg x.val) rfl (zav _ rfl (by rfl) _ x rfl (fun _ q=>q.1)) (by assumption) ?_
 try simp only [Tk.put]
 refine Tk.x 4 rfl ?_
 try simp only [Tk.put]
 refine Tk.y 5 (v:=.int .i8 h) rfl ?_ ?_
 ·intro wS hSw
  obtain⟨-,⟨q1,q2⟩,⟨q3,q4⟩⟩:=hSw
  first | (go_simp;done) | (go_simp;with_reducible rfl)
 try simp only [Tk.put]
 refine Tk.t 6 (v:=.agg x.val) rfl (zav _ rfl (by rfl) _ x rfl (fun _ q=>q.1)) (by assumption) ?_
 try simp only [Tk.put]
 refine Tk.s 3 rfl (fun K hK=>?_)
 go_simp
 go_at_call 170
 with_reducible refine (CO1.out _).mono ?_
 rintro e w3 ⟨rfl,hb⟩
 have hS2:=And.intro (hHeld.1.below (B:=Wd.heap.size) (by have:=HSZ.out;omega) hb) (And.intro (hHeld.2.1.below (B':=Wd.heap.size) (by have:=HSZ.out;omega) hb) (hHeld.2.2.below (B':=Wd.heap.size) (by have:=HSZ.out;omega) hb))
 replace HFR:=hid (HFR.out.below (B':=Wd.heap.size) (by have:=HSZ.out;omega) hb)
 replace HW:=hid (HW.out.trans (hb.mono HW.out.size))
 replace HSZ:=hid (Nat.le_trans HSZ.out hb.size)
 clear hb hHeld
 dsimp only
 refine hK.out _ _ hS2 (fun hHeld=>?_)
 clear hK K hS2
 try simp only [Tk.put]
 refine Tk.s 7 rfl (fun K hK=>?_)
 go_simp
 go_at_call 170
 with_reducible refine (CO2.out _).mono ?_
 rintro e w4 ⟨rfl,hb⟩
 have hS2:=And.intro (hHeld.1.below (B:=w3.heap.size) (by have:=HSZ.out;omega) hb) (And.intro (hHeld.2.1.below (B':=w3.heap.size) (by have:=HSZ.out;omega) hb) (hHeld.2.2.below (B':=w3.heap.size) (by have:=HSZ.out;omega) hb))
 replace HFR:=hid (HFR.out.below (B':=w3.heap.size) (by have:=HSZ.out;omega) hb)
 replace HW:=hid (HW.out.trans (hb.mono HW.out.size))
 replace HSZ:=hid (Nat.le_trans HSZ.out hb.size)
 clear hb hHeld
 dsimp only
 refine hK.out _ _ hS2 (fun hHeld=>?_)
 clear hK K hS2
 try simp only [Tk.put]
 refine Tk.x 8 rfl ?_
 try simp only [Tk.put]
 obtain⟨⟨z0,z1⟩,z2,z3⟩:=HFR.out
 refine Tk.s 9 rfl (fun K hK=>?_)
 go_simp
 refine hK.out _ _ ?_ (fun hHeld=>?_)
 ·exact⟨nd_other (nd_other hHeld.1 (by omega)) (by omega),zbn (zbn hHeld.2.1 (by omega)) (by omega),zbn (zbn hHeld.2.2 (by omega)) (by omega)⟩
 clear hK K
 try simp only [Tk.put]
 refine Tk.x 10 rfl ?_
 try simp only [Tk.put]
 refine wpAnyH_done (by kernel_rfl) ?_ _
 clear hHeld
 go_wp2_with fail
 refine bodyPost_ret (Kit.zaa rfl _ _ (w.heap.size+3) 0 [.int .i8 (ra),.int .i8 (rb)] _ rfl (Kit.zar (by go_cell) (by go_cell)) Tryz.underlying172 rfl (by kernel_rfl)) rfl ?_
 exact⟨rfl,(HW.out.setCell (p:=⟨w.heap.size+3,0,none⟩) (Nat.le_add_right _ _) _).setCell (p:=⟨w.heap.size+3,1,none⟩) (Nat.le_add_right _ _) _⟩
end CGuard
end
end Go.Proofs.YtfgdfignoakkaaaGreatDoor
