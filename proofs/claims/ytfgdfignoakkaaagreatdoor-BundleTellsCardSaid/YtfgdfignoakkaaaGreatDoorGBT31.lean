/- -/
import Derived.Test.YtfgdfignoakkaaaGreatDoorGBT30
open Go.Lib (hid)
open Nat (le_refl lt_of_succ_lt lt_succ_self)
set_option linter.unusedVariables false
set_option linter.unusedSimpArgs false
set_option maxRecDepth 100000
set_option maxHeartbeats 16000000
namespace Go.Proofs.YtfgdfignoakkaaaGreatDoor
namespace CConv
end CConv
namespace CFix
end CFix
namespace CGraph
end CGraph
namespace CJoin
end CJoin
namespace CKind
end CKind
namespace CSat
end CSat
namespace CShape
end CShape
namespace CSpan
end CSpan
namespace CTensor
end CTensor
open Go Go.ChangeShapes Go.WideShapes Go.ChangeAt Go.RowKit Go.Deep
section
namespace CGuard
open Plain CSat CFix CShape CTensor CConv CSpan CKind CGraph CJoin
theorem cgn_arg {w:World} (x:Nd) (hx:x.Small) (hT:zad w) (l h l2 h2:Int) (bd:(-128≤l∧l≤127)∧(-128≤h∧h≤127)∧(-128≤l2∧l2≤127)∧(-128≤h2∧h2≤127)) (ok:NBd x.Z x.Y x.m1 x.z1 x.m2 x.z2 x.lo x.hi) (he:x.checkZ=0) (hlh:h < l) :
  Calls Tryz.prog 149 #[.agg x.val,.agg #[.int .i8 l,.int .i8 h],.agg #[.int .i8 l2,.int .i8 h2]] w fun e w'=>e=.returned (.tuple #[.agg #[.int .i8 (0),.int .i8 (0)],.int .i64 (2)])∧Below w.heap.size w w':=by
 obtain⟨hg0,hw0⟩:=za7.newC w x l h l2 h2
 have HG:=hid hg0
 have HW:=hid hw0
 have HT:=hid hT
 have hck:=fun (w:World) (hT:zad w)=>zay x hx w hT
 rw [he] at hck
 have CE1:=hid (fun w:World=>zbb l h w)
 rw [show decide (h < l)=true by simp;omega] at CE1
 have CK:=hid hck
 clear hg0 hw0 hck hT he hlh
 go_enter Tryz.func149,Tryz.ntmps149
 go_upto_region 1 with fail
 generalize (((w.alloc (.cells x.val 54)).alloc (.cells #[.int .i8 l,.int .i8 h] 172)).alloc (.cells #[.int .i8 l2,.int .i8 h2] 172)).alloc (.cells #[.int .i8 0,.int .i8 0] 172)=W0 at HG HW ⊢
 have c0:=HG.out.1.at 0 _ rfl
 have c5:=HG.out.1.at 5 _ rfl
 have c7:=HG.out.1.at 7 _ rfl
 obtain⟨a0,a1⟩:=HG.out.2.1
 obtain⟨b0,b1⟩:=HG.out.2.2.1
 go_wp2_with (refine zac rfl _ rfl w.heap.size x rfl HG.out.1 ?_)
 go_at_call 144
 refine (CK.out _ (HT.out.grown HW.out)).mono ?_
 rintro e w1 ⟨rfl,hb⟩
 replace HG:=hid (HG.out.below hb)
 replace HW:=hid (HW.out.trans (hb.mono HW.out.size))
 clear hb c0 c5 c7 a0 a1 b0 b1
 have c0:=HG.out.1.at 0 _ rfl
 have c5:=HG.out.1.at 5 _ rfl
 have c7:=HG.out.1.at 7 _ rfl
 obtain⟨a0,a1⟩:=HG.out.2.1
 obtain⟨b0,b1⟩:=HG.out.2.2.1
 go_upto_region 4 with (refine zac rfl _ rfl w.heap.size x rfl HG.out.1 ?_)
 refine wp_region_lit ?_
 refine wpList_plain rfl (fun K hK=>?_)
 go_simp
 refine hK _ _ ?_
 clear hK K
 try simp only [Tk.put]
 refine wpList_plain rfl (fun K hK=>?_)
 go_simp
 go_at_call 130
 refine (CE1.out _).mono ?_
 rintro e w2 ⟨rfl,hb⟩
 replace HG:=hid (HG.out.below hb)
 replace HW:=hid (HW.out.trans (hb.mono HW.out.size))
 clear hb c0 c5 c7 a0 a1 b0 b1
 dsimp only
 refine hK _ _ ?_
 clear hK K
 try simp only [Tk.put]
 refine wpList_plain rfl (fun K hK=>?_)
 go_simp
 refine hK _ _ ?_
 clear hK K
 try simp only [Tk.put]
 go_skip
 have c0:=HG.out.1.at 0 _ rfl
 have c5:=HG.out.1.at 5 _ rfl
 have c7:=HG.out.1.at 7 _ rfl
 obtain⟨a0,a1⟩:=HG.out.2.1
 obtain⟨b0,b1⟩:=HG.out.2.2.1
 obtain⟨⟨z0,z1⟩,z2,z3⟩:=HG.out.2.2.2.1
 go_wp2_with (refine zac rfl _ rfl w.heap.size x rfl HG.out.1 ?_)
 refine bodyPost_ret (Kit.zaa rfl _ _ (w.heap.size+3) 0 [.int .i8 (0),.int .i8 (0)] _ rfl (Kit.zar (by go_cell) (by go_cell)) Tryz.underlying172 rfl (by kernel_rfl)) rfl ?_
 exact⟨rfl,(HW.out.setCell (p:=⟨w.heap.size+3,0,none⟩) (Nat.le_add_right _ _) _).setCell (p:=⟨w.heap.size+3,1,none⟩) (Nat.le_add_right _ _) _⟩
theorem cgn_arg6 {w:World} (x:Nd) (hx:x.Small) (hT:zad w) (l h l2 h2:Int) (bd:(-128≤l∧l≤127)∧(-128≤h∧h≤127)∧(-128≤l2∧l2≤127)∧(-128≤h2∧h2≤127)) (ok:NBd x.Z x.Y x.m1 x.z1 x.m2 x.z2 x.lo x.hi) (he:x.checkZ=0) (hk:x.kd=6) (hlh:l≤h) (hlh2:h2 < l2) :
  Calls Tryz.prog 149 #[.agg x.val,.agg #[.int .i8 l,.int .i8 h],.agg #[.int .i8 l2,.int .i8 h2]] w fun e w'=>e=.returned (.tuple #[.agg #[.int .i8 (0),.int .i8 (0)],.int .i64 (2)])∧Below w.heap.size w w':=by
 obtain⟨hg0,hw0⟩:=za7.newC w x l h l2 h2
 have HG:=hid hg0
 have HW:=hid hw0
 have HT:=hid hT
 have hck:=fun (w:World) (hT:zad w)=>zay x hx w hT
 rw [he] at hck
 have CE1:=hid (fun w:World=>zbb l h w)
 rw [show decide (h < l)=false by simp;omega] at CE1
 have CE2:=hid (fun w:World=>zbb l2 h2 w)
 rw [show decide (h2 < l2)=true by simp;omega] at CE2
 have dk1:(x.kd == 1)=false:=by simp [hk]
 have dk2:(x.kd == 2)=false:=by simp [hk]
 have dk3:(x.kd == 3)=false:=by simp [hk]
 have dk6:(x.kd == 6)=true:=by simp [hk]
 have dk7:(x.kd == 7)=false:=by simp [hk]
 have dk8:(x.kd == 8)=false:=by simp [hk]
 have CK:=hid hck
 clear hg0 hw0 hck hT he hk hlh hlh2
 go_enter Tryz.func149,Tryz.ntmps149
 go_upto_region 1 with fail
 generalize (((w.alloc (.cells x.val 54)).alloc (.cells #[.int .i8 l,.int .i8 h] 172)).alloc (.cells #[.int .i8 l2,.int .i8 h2] 172)).alloc (.cells #[.int .i8 0,.int .i8 0] 172)=W0 at HG HW ⊢
 have c0:=HG.out.1.at 0 _ rfl
 have c5:=HG.out.1.at 5 _ rfl
 have c7:=HG.out.1.at 7 _ rfl
 obtain⟨a0,a1⟩:=HG.out.2.1
 obtain⟨b0,b1⟩:=HG.out.2.2.1
 go_wp2_with (refine zac rfl _ rfl w.heap.size x rfl HG.out.1 ?_)
 go_at_call 144
 refine (CK.out _ (HT.out.grown HW.out)).mono ?_
 rintro e w1 ⟨rfl,hb⟩
 replace HG:=hid (HG.out.below hb)
 replace HW:=hid (HW.out.trans (hb.mono HW.out.size))
 clear hb c0 c5 c7 a0 a1 b0 b1
 have c0:=HG.out.1.at 0 _ rfl
 have c5:=HG.out.1.at 5 _ rfl
 have c7:=HG.out.1.at 7 _ rfl
 obtain⟨a0,a1⟩:=HG.out.2.1
 obtain⟨b0,b1⟩:=HG.out.2.2.1
 go_wp2_with (refine zac rfl _ rfl w.heap.size x rfl HG.out.1 ?_)
 go_at_call 130
 refine (CE1.out _).mono ?_
 rintro e w2 ⟨rfl,hb⟩
 replace HG:=hid (HG.out.below hb)
 replace HW:=hid (HW.out.trans (hb.mono HW.out.size))
 clear hb c0 c5 c7 a0 a1 b0 b1
 have c0:=HG.out.1.at 0 _ rfl
 have c5:=HG.out.1.at 5 _ rfl
 have c7:=HG.out.1.at 7 _ rfl
 obtain⟨a0,a1⟩:=HG.out.2.1
 obtain⟨b0,b1⟩:=HG.out.2.2.1
 go_wp2_with (refine zac rfl _ rfl w.heap.size x rfl HG.out.1 ?_)
 go_at_call 130
 refine (CE2.out _).mono ?_
 rintro e w3 ⟨rfl,hb⟩
 replace HG:=hid (HG.out.below hb)
 replace HW:=hid (HW.out.trans (hb.mono HW.out.size))
 clear hb c0 c5 c7 a0 a1 b0 b1
 have c0:=HG.out.1.at 0 _ rfl
 have c5:=HG.out.1.at 5 _ rfl
 have c7:=HG.out.1.at 7 _ rfl
 obtain⟨a0,a1⟩:=HG.out.2.1
 obtain⟨b0,b1⟩:=HG.out.2.2.1
 obtain⟨⟨z0,z1⟩,z2,z3⟩:=HG.out.2.2.2.1
 go_wp2_with (refine zac rfl _ rfl w.heap.size x rfl HG.out.1 ?_)
 refine bodyPost_ret (Kit.zaa rfl _ _ (w.heap.size+3) 0 [.int .i8 (0),.int .i8 (0)] _ rfl (Kit.zar (by go_cell) (by go_cell)) Tryz.underlying172 rfl (by kernel_rfl)) rfl ?_
 exact⟨rfl,(HW.out.setCell (p:=⟨w.heap.size+3,0,none⟩) (Nat.le_add_right _ _) _).setCell (p:=⟨w.heap.size+3,1,none⟩) (Nat.le_add_right _ _) _⟩
theorem cgn_same9 {w:World} (x:Nd) (hx:x.Small) (hT:zad w) (l h l2 h2:Int) (bd:(-128≤l∧l≤127)∧(-128≤h∧h≤127)∧(-128≤l2∧l2≤127)∧(-128≤h2∧h2≤127)) (ok:NBd x.Z x.Y x.m1 x.z1 x.m2 x.z2 x.lo x.hi) (he:x.checkZ=0) (hk:x.kd=9) (hlh:l≤h) :
  Calls Tryz.prog 149 #[.agg x.val,.agg #[.int .i8 l,.int .i8 h],.agg #[.int .i8 l2,.int .i8 h2]] w fun e w'=>e=.returned (.tuple #[.agg #[.int .i8 (l),.int .i8 (h)],.int .i64 (0)])∧Below w.heap.size w w':=by
 obtain⟨hg0,hw0⟩:=za7.newC w x l h l2 h2
 have HG:=hid hg0
 have HW:=hid hw0
 have HT:=hid hT
 have hck:=fun (w:World) (hT:zad w)=>zay x hx w hT
 rw [he] at hck
 have CE1:=hid (fun w:World=>zbb l h w)
 rw [show decide (h < l)=false by simp;omega] at CE1
 have dk1:(x.kd == 1)=false:=by simp [hk]
 have dk2:(x.kd == 2)=false:=by simp [hk]
 have dk3:(x.kd == 3)=false:=by simp [hk]
 have dk6:(x.kd == 6)=false:=by simp [hk]
 have dk7:(x.kd == 7)=false:=by simp [hk]
 have dk8:(x.kd == 8)=false:=by simp [hk]
 have CK:=hid hck
 clear hg0 hw0 hck hT he hk hlh
 go_enter Tryz.func149,Tryz.ntmps149
 go_upto_region 1 with fail
 generalize (((w.alloc (.cells x.val 54)).alloc (.cells #[.int .i8 l,.int .i8 h] 172)).alloc (.cells #[.int .i8 l2,.int .i8 h2] 172)).alloc (.cells #[.int .i8 0,.int .i8 0] 172)=W0 at HG HW ⊢
 have c0:=HG.out.1.at 0 _ rfl
 have c5:=HG.out.1.at 5 _ rfl
 have c7:=HG.out.1.at 7 _ rfl
 obtain⟨a0,a1⟩:=HG.out.2.1
 obtain⟨b0,b1⟩:=HG.out.2.2.1
 go_wp2_with (refine zac rfl _ rfl w.heap.size x rfl HG.out.1 ?_)
 go_at_call 144
 refine (CK.out _ (HT.out.grown HW.out)).mono ?_
 rintro e w1 ⟨rfl,hb⟩
 replace HG:=hid (HG.out.below hb)
 replace HW:=hid (HW.out.trans (hb.mono HW.out.size))
 clear hb c0 c5 c7 a0 a1 b0 b1
 have c0:=HG.out.1.at 0 _ rfl
 have c5:=HG.out.1.at 5 _ rfl
 have c7:=HG.out.1.at 7 _ rfl
 obtain⟨a0,a1⟩:=HG.out.2.1
 obtain⟨b0,b1⟩:=HG.out.2.2.1
 go_wp2_with (refine zac rfl _ rfl w.heap.size x rfl HG.out.1 ?_)
 go_at_call 130
 refine (CE1.out _).mono ?_
 rintro e w2 ⟨rfl,hb⟩
 replace HG:=hid (HG.out.below hb)
 replace HW:=hid (HW.out.trans (hb.mono HW.out.size))
 clear hb c0 c5 c7 a0 a1 b0 b1
 have c0:=HG.out.1.at 0 _ rfl
 have c5:=HG.out.1.at 5 _ rfl
 have c7:=HG.out.1.at 7 _ rfl
 obtain⟨a0,a1⟩:=HG.out.2.1
 obtain⟨b0,b1⟩:=HG.out.2.2.1
 obtain⟨⟨z0,z1⟩,z2,z3⟩:=HG.out.2.2.2.1
 go_wp2_with (refine zac rfl _ rfl w.heap.size x rfl HG.out.1 ?_)
 refine bodyPost_ret (Kit.zaa rfl _ _ (w.heap.size+3) 0 [.int .i8 (l),.int .i8 (h)] _ rfl (Kit.zar (by go_cell) (by go_cell)) Tryz.underlying172 rfl (by kernel_rfl)) rfl ?_
 exact⟨rfl,(HW.out.setCell (p:=⟨w.heap.size+3,0,none⟩) (Nat.le_add_right _ _) _).setCell (p:=⟨w.heap.size+3,1,none⟩) (Nat.le_add_right _ _) _⟩
theorem NdL.belowG {w w':World} {x:Nd} {ws bs:List Int} (h:NdL w w.heap.size x ws bs) (hb:Below w.heap.size w w'):NdL w' w'.heap.size x ws bs :=
 ⟨CBund.NdOk.more (CBund.NdOk.below h.ok hb) hb.size,h.lw,h.lb,h.cw,h.iw,h.ib,(h.rw.below hb).more hb.size,(h.rb.below hb).more hb.size⟩
theorem cgnode_to {w:World} (x:Nd) (hx:x.Small) (hT:zad w) (l h l2 h2:Int) (bd:(-128≤l∧l≤127)∧(-128≤h∧h≤127)∧(-128≤l2∧l2≤127)∧(-128≤h2∧h2≤127)) (ws bs:List Int) (hL:NdL w w.heap.size x ws bs) (hW2:x.nW≤20000) (hB2:x.nB≤20000) :
  Calls Tryz.prog 149 #[.agg x.val,.agg #[.int .i8 l,.int .i8 h],.agg #[.int .i8 l2,.int .i8 h2]] w fun e w'=>e=.returned (.tuple #[.agg #[.int .i8 (gnZ x ws bs l h l2 h2).1,.int .i8 (gnZ x ws bs l h l2 h2).2.1],.int .i64 (gnZ x ws bs l h l2 h2).2.2])∧Below w.heap.size w w':=by
 have ok:=nbd_of hL.ok
 unfold gnZ
 by_cases hc:x.checkZ≠0
 ·rw [if_pos hc];exact cgn_chk x hx hT l h l2 h2 bd ok _ rfl hc
 ·rw [if_neg hc]
  have he:x.checkZ=0:=by omega
  have hkd:=check_kd he
  by_cases hlh:h < l
  ·rw [if_pos (.inl hlh)];exact cgn_arg x hx hT l h l2 h2 bd ok he hlh
  ·by_cases h6:x.kd=6∧h2 < l2
   ·rw [if_pos (.inr h6)];exact cgn_arg6 x hx hT l h l2 h2 bd ok he h6.1 (by omega) h6.2
   ·rw [if_neg (by omega)]
    by_cases hs3:x.kd=1∨x.kd=2∨x.kd=3
    ·rw [if_pos hs3]
     have CS:=fun (w':World) (hb:Below w.heap.size w w')=>csum_to (w:=w') x l h ⟨bd.1,bd.2.1⟩ ok ws bs (NdL.belowG hL hb) hW2 hB2
     change Calls _ _ _ _ fun e w'=>e=.returned (.tuple #[.agg #[.int .i8 (sgZ x ws bs l h).1,.int .i8 (sgZ x ws bs l h).2.1],.int .i64 (sgZ x ws bs l h).2.2])∧Below w.heap.size w w'
     rcases hs3 with k | k | k
     ·exact cgn_sum1 x hx hT l h l2 h2 bd ok he k (by omega) _ _ _ CS
     ·exact cgn_sum2 x hx hT l h l2 h2 bd ok he k (by omega) _ _ _ CS
     ·exact cgn_sum3 x hx hT l h l2 h2 bd ok he k (by omega) _ _ _ CS
    ·rw [if_neg hs3]
     by_cases k6:x.kd=6
     ·rw [if_pos k6];exact cgn_join x hx hT l h l2 h2 bd ok he k6 (by omega) (by omega)
     ·rw [if_neg k6]
      by_cases k7:x.kd=7
      ·rw [if_pos k7];exact cgn_act x hx hT l h l2 h2 bd ok he k7 (by omega)
      ·rw [if_neg k7]
       by_cases k8:x.kd=8∧0 < x.P
       ·rw [if_pos k8];exact cgn_pad x hx hT l h l2 h2 bd ok he k8.1 (by omega) _ _ (fun w=>bord_yes x l h k8.2 w)
       ·rw [if_neg k8]
        by_cases k9:x.kd=8
        ·exact cgn_pad x hx hT l h l2 h2 bd ok he k9 (by omega) _ _ (fun w=>bord_no x l h (fun h=>k8 ⟨k9,h⟩) w)
        ·have:x.kd=4∨x.kd=5∨x.kd=9:=by omega
         rcases this with k | k | k
         ·exact cgn_same4 x hx hT l h l2 h2 bd ok he k (by omega)
         ·exact cgn_same5 x hx hT l h l2 h2 bd ok he k (by omega)
         ·exact cgn_same9 x hx hT l h l2 h2 bd ok he k (by omega)
end CGuard
end
end Go.Proofs.YtfgdfignoakkaaaGreatDoor
