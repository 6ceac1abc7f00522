/- -/
import Derived.Test.YtfgdfignoakkaaaGreatDoorGBT29
open Go.Lib (hid)
open Nat (le_refl lt_of_succ_lt lt_succ_self)
set_option linter.unusedVariables false
set_option linter.unusedSimpArgs false
set_option maxRecDepth 100000
set_option maxHeartbeats 16000000
namespace Go.Proofs.YtfgdfignoakkaaaGreatDoor
namespace CConv
end CConv
namespace CFix
end CFix
namespace CGraph
end CGraph
namespace CJoin
end CJoin
namespace CKind
end CKind
namespace CSat
end CSat
namespace CShape
end CShape
namespace CSpan
end CSpan
namespace CTensor
end CTensor
open Go Go.ChangeShapes Go.WideShapes Go.ChangeAt Go.RowKit Go.Deep
section
namespace CGuard
open Plain CSat CFix CShape CTensor CConv CSpan CKind CGraph CJoin
theorem cgn_sum2 {w:World} (x:Nd) (hx:x.Small) (hT:zad w) (l h l2 h2:Int) (bd:(-128≤l∧l≤127)∧(-128≤h∧h≤127)∧(-128≤l2∧l2≤127)∧(-128≤h2∧h2≤127)) (ok:NBd x.Z x.Y x.m1 x.z1 x.m2 x.z2 x.lo x.hi) (he:x.checkZ=0) (hk:x.kd=2) (hlh:l≤h) (ra rb rc:Int) (hB:∀ w':World,Below w.heap.size w w'→Calls Tryz.prog 168 #[.agg x.val,.agg #[.int .i8 l,.int .i8 h]] w' fun e w''=>e=.returned (.tuple #[.agg #[.int .i8 ra,.int .i8 rb],.int .i64 rc])∧Below w'.heap.size w' w'') :
  Calls Tryz.prog 149 #[.agg x.val,.agg #[.int .i8 l,.int .i8 h],.agg #[.int .i8 l2,.int .i8 h2]] w fun e w'=>e=.returned (.tuple #[.agg #[.int .i8 (ra),.int .i8 (rb)],.int .i64 (rc)])∧Below w.heap.size w w':=by
 obtain⟨hg0,hw0⟩:=za7.newC w x l h l2 h2
 have HG:=hid hg0
 have HW:=hid hw0
 have HT:=hid hT
 have hck:=fun (w:World) (hT:zad w)=>zay x hx w hT
 rw [he] at hck
 have CE1:=hid (fun w:World=>zbb l h w)
 rw [show decide (h < l)=false by simp;omega] at CE1
 have dk1:(x.kd == 1)=false:=by simp [hk]
 have dk2:(x.kd == 2)=true:=by simp [hk]
 have dk3:(x.kd == 3)=false:=by simp [hk]
 have dk6:(x.kd == 6)=false:=by simp [hk]
 have dk7:(x.kd == 7)=false:=by simp [hk]
 have dk8:(x.kd == 8)=false:=by simp [hk]
 have CB:=hid hB
 have CK:=hid hck
 clear hg0 hw0 hck hT he hk hlh hB
 go_enter Tryz.func149,Tryz.ntmps149
 go_upto_region 1 with fail
 generalize (((w.alloc (.cells x.val 54)).alloc (.cells #[.int .i8 l,.int .i8 h] 172)).alloc (.cells #[.int .i8 l2,.int .i8 h2] 172)).alloc (.cells #[.int .i8 0,.int .i8 0] 172)=W0 at HG HW ⊢
 have c0:=HG.out.1.at 0 _ rfl
 have c5:=HG.out.1.at 5 _ rfl
 have c7:=HG.out.1.at 7 _ rfl
 obtain⟨a0,a1⟩:=HG.out.2.1
 obtain⟨b0,b1⟩:=HG.out.2.2.1
 go_wp2_with (refine zac rfl _ rfl w.heap.size x rfl HG.out.1 ?_)
 go_at_call 144
 refine (CK.out _ (HT.out.grown HW.out)).mono ?_
 rintro e w1 ⟨rfl,hb⟩
 replace HG:=hid (HG.out.below hb)
 replace HW:=hid (HW.out.trans (hb.mono HW.out.size))
 clear hb c0 c5 c7 a0 a1 b0 b1
 have c0:=HG.out.1.at 0 _ rfl
 have c5:=HG.out.1.at 5 _ rfl
 have c7:=HG.out.1.at 7 _ rfl
 obtain⟨a0,a1⟩:=HG.out.2.1
 obtain⟨b0,b1⟩:=HG.out.2.2.1
 go_wp2_with (refine zac rfl _ rfl w.heap.size x rfl HG.out.1 ?_)
 go_at_call 130
 refine (CE1.out _).mono ?_
 rintro e w2 ⟨rfl,hb⟩
 replace HG:=hid (HG.out.below hb)
 replace HW:=hid (HW.out.trans (hb.mono HW.out.size))
 clear hb c0 c5 c7 a0 a1 b0 b1
 have c0:=HG.out.1.at 0 _ rfl
 have c5:=HG.out.1.at 5 _ rfl
 have c7:=HG.out.1.at 7 _ rfl
 obtain⟨a0,a1⟩:=HG.out.2.1
 obtain⟨b0,b1⟩:=HG.out.2.2.1
 go_wp2_with (refine zac rfl _ rfl w.heap.size x rfl HG.out.1 ?_)
 go_at_call 168
 refine (CB.out _ HW.out).mono ?_
 rintro e w3 ⟨rfl,hb⟩
 replace HG:=hid (HG.out.below hb)
 replace HW:=hid (HW.out.trans (hb.mono HW.out.size))
 clear hb c0 c5 c7 a0 a1 b0 b1
 have c0:=HG.out.1.at 0 _ rfl
 have c5:=HG.out.1.at 5 _ rfl
 have c7:=HG.out.1.at 7 _ rfl
 obtain⟨a0,a1⟩:=HG.out.2.1
 obtain⟨b0,b1⟩:=HG.out.2.2.1
 obtain⟨⟨z0,z1⟩,z2,z3⟩:=HG.out.2.2.2.1
 go_wp2_with (refine zac rfl _ rfl w.heap.size x rfl HG.out.1 ?_)
 refine bodyPost_ret (Kit.zaa rfl _ _ (w.heap.size+3) 0 [.int .i8 (ra),.int .i8 (rb)] _ rfl (Kit.zar (by go_cell) (by go_cell)) Tryz.underlying172 rfl (by kernel_rfl)) rfl ?_
 exact⟨rfl,(HW.out.setCell (p:=⟨w.heap.size+3,0,none⟩) (Nat.le_add_right _ _) _).setCell (p:=⟨w.heap.size+3,1,none⟩) (Nat.le_add_right _ _) _⟩
theorem cgn_sum3 {w:World} (x:Nd) (hx:x.Small) (hT:zad w) (l h l2 h2:Int) (bd:(-128≤l∧l≤127)∧(-128≤h∧h≤127)∧(-128≤l2∧l2≤127)∧(-128≤h2∧h2≤127)) (ok:NBd x.Z x.Y x.m1 x.z1 x.m2 x.z2 x.lo x.hi) (he:x.checkZ=0) (hk:x.kd=3) (hlh:l≤h) (ra rb rc:Int) (hB:∀ w':World,Below w.heap.size w w'→Calls Tryz.prog 168 #[.agg x.val,.agg #[.int .i8 l,.int .i8 h]] w' fun e w''=>e=.returned (.tuple #[.agg #[.int .i8 ra,.int .i8 rb],.int .i64 rc])∧Below w'.heap.size w' w'') :
  Calls Tryz.prog 149 #[.agg x.val,.agg #[.int .i8 l,.int .i8 h],.agg #[.int .i8 l2,.int .i8 h2]] w fun e w'=>e=.returned (.tuple #[.agg #[.int .i8 (ra),.int .i8 (rb)],.int .i64 (rc)])∧Below w.heap.size w w':=by
 obtain⟨hg0,hw0⟩:=za7.newC w x l h l2 h2
 have HG:=hid hg0
 have HW:=hid hw0
 have HT:=hid hT
 have hck:=fun (w:World) (hT:zad w)=>zay x hx w hT
 rw [he] at hck
 have CE1:=hid (fun w:World=>zbb l h w)
 rw [show decide (h < l)=false by simp;omega] at CE1
 have dk1:(x.kd == 1)=false:=by simp [hk]
 have dk2:(x.kd == 2)=false:=by simp [hk]
 have dk3:(x.kd == 3)=true:=by simp [hk]
 have dk6:(x.kd == 6)=false:=by simp [hk]
 have dk7:(x.kd == 7)=false:=by simp [hk]
 have dk8:(x.kd == 8)=false:=by simp [hk]
 have CB:=hid hB
 have CK:=hid hck
 clear hg0 hw0 hck hT he hk hlh hB
 go_enter Tryz.func149,Tryz.ntmps149
 go_upto_region 1 with fail
 generalize (((w.alloc (.cells x.val 54)).alloc (.cells #[.int .i8 l,.int .i8 h] 172)).alloc (.cells #[.int .i8 l2,.int .i8 h2] 172)).alloc (.cells #[.int .i8 0,.int .i8 0] 172)=W0 at HG HW ⊢
 have c0:=HG.out.1.at 0 _ rfl
 have c5:=HG.out.1.at 5 _ rfl
 have c7:=HG.out.1.at 7 _ rfl
 obtain⟨a0,a1⟩:=HG.out.2.1
 obtain⟨b0,b1⟩:=HG.out.2.2.1
 go_wp2_with (refine zac rfl _ rfl w.heap.size x rfl HG.out.1 ?_)
 go_at_call 144
 refine (CK.out _ (HT.out.grown HW.out)).mono ?_
 rintro e w1 ⟨rfl,hb⟩
 replace HG:=hid (HG.out.below hb)
 replace HW:=hid (HW.out.trans (hb.mono HW.out.size))
 clear hb c0 c5 c7 a0 a1 b0 b1
 have c0:=HG.out.1.at 0 _ rfl
 have c5:=HG.out.1.at 5 _ rfl
 have c7:=HG.out.1.at 7 _ rfl
 obtain⟨a0,a1⟩:=HG.out.2.1
 obtain⟨b0,b1⟩:=HG.out.2.2.1
 go_wp2_with (refine zac rfl _ rfl w.heap.size x rfl HG.out.1 ?_)
 go_at_call 130
 refine (CE1.out _).mono ?_
 rintro e w2 ⟨rfl,hb⟩
 replace HG:=hid (HG.out.below hb)
 replace HW:=hid (HW.out.trans (hb.mono HW.out.size))
 clear hb c0 c5 c7 a0 a1 b0 b1
 have c0:=HG.out.1.at 0 _ rfl
 have c5:=HG.out.1.at 5 _ rfl
 have c7:=HG.out.1.at 7 _ rfl
 obtain⟨a0,a1⟩:=HG.out.2.1
 obtain⟨b0,b1⟩:=HG.out.2.2.1
 go_wp2_with (refine zac rfl _ rfl w.heap.size x rfl HG.out.1 ?_)
 go_at_call 168
 refine (CB.out _ HW.out).mono ?_
 rintro e w3 ⟨rfl,hb⟩
 replace HG:=hid (HG.out.below hb)
 replace HW:=hid (HW.out.trans (hb.mono HW.out.size))
 clear hb c0 c5 c7 a0 a1 b0 b1
 have c0:=HG.out.1.at 0 _ rfl
 have c5:=HG.out.1.at 5 _ rfl
 have c7:=HG.out.1.at 7 _ rfl
 obtain⟨a0,a1⟩:=HG.out.2.1
 obtain⟨b0,b1⟩:=HG.out.2.2.1
 obtain⟨⟨z0,z1⟩,z2,z3⟩:=HG.out.2.2.2.1
 go_wp2_with (refine zac rfl _ rfl w.heap.size x rfl HG.out.1 ?_)
 refine bodyPost_ret (Kit.zaa rfl _ _ (w.heap.size+3) 0 [.int .i8 (ra),.int .i8 (rb)] _ rfl (Kit.zar (by go_cell) (by go_cell)) Tryz.underlying172 rfl (by kernel_rfl)) rfl ?_
 exact⟨rfl,(HW.out.setCell (p:=⟨w.heap.size+3,0,none⟩) (Nat.le_add_right _ _) _).setCell (p:=⟨w.heap.size+3,1,none⟩) (Nat.le_add_right _ _) _⟩
theorem cgn_join {w:World} (x:Nd) (hx:x.Small) (hT:zad w) (l h l2 h2:Int) (bd:(-128≤l∧l≤127)∧(-128≤h∧h≤127)∧(-128≤l2∧l2≤127)∧(-128≤h2∧h2≤127)) (ok:NBd x.Z x.Y x.m1 x.z1 x.m2 x.z2 x.lo x.hi) (he:x.checkZ=0) (hk:x.kd=6) (hlh:l≤h) (hlh2:l2≤h2) :
  Calls Tryz.prog 149 #[.agg x.val,.agg #[.int .i8 l,.int .i8 h],.agg #[.int .i8 l2,.int .i8 h2]] w fun e w'=>e=.returned (.tuple #[.agg #[.int .i8 (oneZ l l2 x.Z x.Y x.m1 x.s1 x.z1 x.m2 x.s2 x.lo x.hi),.int .i8 (oneZ h h2 x.Z x.Y x.m1 x.s1 x.z1 x.m2 x.s2 x.lo x.hi)],.int .i64 (0)])∧Below w.heap.size w w':=by
 obtain⟨hg0,hw0⟩:=za7.newC w x l h l2 h2
 have HG:=hid hg0
 have HW:=hid hw0
 have HT:=hid hT
 have hck:=fun (w:World) (hT:zad w)=>zay x hx w hT
 rw [he] at hck
 have CE1:=hid (fun w:World=>zbb l h w)
 rw [show decide (h < l)=false by simp;omega] at CE1
 have CE2:=hid (fun w:World=>zbb l2 h2 w)
 rw [show decide (h2 < l2)=false by simp;omega] at CE2
 have dk1:(x.kd == 1)=false:=by simp [hk]
 have dk2:(x.kd == 2)=false:=by simp [hk]
 have dk3:(x.kd == 3)=false:=by simp [hk]
 have dk6:(x.kd == 6)=true:=by simp [hk]
 have dk7:(x.kd == 7)=false:=by simp [hk]
 have dk8:(x.kd == 8)=false:=by simp [hk]
 have CO1:Hid (∀ w:World,Calls Tryz.prog 169 #[.int .i8 l,.int .i8 l2,.agg x.val] w fun e w'=>e=.returned (.int .i8 (oneZ l l2 x.Z x.Y x.m1 x.s1 x.z1 x.m2 x.s2 x.lo x.hi))∧Below w.heap.size w w'):=hid (fun w=>one_to l l2 bd.1.1 bd.1.2 bd.2.2.1.1 bd.2.2.1.2 (.int .i64 x.kd) (.int .i64 x.na) (.int .i64 x.nb) x.K x.S x.P x.O x.Z x.Y x.WA x.BA x.nW x.cW x.nB x.cB x.m1 x.s1 x.z1 x.m2 x.s2 x.z2 x.lo x.hi ok _ rfl w)
 have CO2:Hid (∀ w:World,Calls Tryz.prog 169 #[.int .i8 h,.int .i8 h2,.agg x.val] w fun e w'=>e=.returned (.int .i8 (oneZ h h2 x.Z x.Y x.m1 x.s1 x.z1 x.m2 x.s2 x.lo x.hi))∧Below w.heap.size w w'):=hid (fun w=>one_to h h2 bd.2.1.1 bd.2.1.2 bd.2.2.2.1 bd.2.2.2.2 (.int .i64 x.kd) (.int .i64 x.na) (.int .i64 x.nb) x.K x.S x.P x.O x.Z x.Y x.WA x.BA x.nW x.cW x.nB x.cB x.m1 x.s1 x.z1 x.m2 x.s2 x.z2 x.lo x.hi ok _ rfl w)
 generalize oneZ l l2 x.Z x.Y x.m1 x.s1 x.z1 x.m2 x.s2 x.lo x.hi=ra at CO1 ⊢
 generalize oneZ h h2 x.Z x.Y x.m1 x.s1 x.z1 x.m2 x.s2 x.lo x.hi=rb at CO2 ⊢
 have CK:=hid hck
 clear hg0 hw0 hck hT he hk hlh hlh2
 go_enter Tryz.func149,Tryz.ntmps149
 go_upto_region 1 with fail
 generalize (((w.alloc (.cells x.val 54)).alloc (.cells #[.int .i8 l,.int .i8 h] 172)).alloc (.cells #[.int .i8 l2,.int .i8 h2] 172)).alloc (.cells #[.int .i8 0,.int .i8 0] 172)=W0 at HG HW ⊢
 have c0:=HG.out.1.at 0 _ rfl
 have c5:=HG.out.1.at 5 _ rfl
 have c7:=HG.out.1.at 7 _ rfl
 obtain⟨a0,a1⟩:=HG.out.2.1
 obtain⟨b0,b1⟩:=HG.out.2.2.1
 go_wp2_with (refine zac rfl _ rfl w.heap.size x rfl HG.out.1 ?_)
 go_at_call 144
 refine (CK.out _ (HT.out.grown HW.out)).mono ?_
 rintro e w1 ⟨rfl,hb⟩
 replace HG:=hid (HG.out.below hb)
 replace HW:=hid (HW.out.trans (hb.mono HW.out.size))
 clear hb c0 c5 c7 a0 a1 b0 b1
 have c0:=HG.out.1.at 0 _ rfl
 have c5:=HG.out.1.at 5 _ rfl
 have c7:=HG.out.1.at 7 _ rfl
 obtain⟨a0,a1⟩:=HG.out.2.1
 obtain⟨b0,b1⟩:=HG.out.2.2.1
 go_wp2_with (refine zac rfl _ rfl w.heap.size x rfl HG.out.1 ?_)
 go_at_call 130
 refine (CE1.out _).mono ?_
 rintro e w2 ⟨rfl,hb⟩
 replace HG:=hid (HG.out.below hb)
 replace HW:=hid (HW.out.trans (hb.mono HW.out.size))
 clear hb c0 c5 c7 a0 a1 b0 b1
 have c0:=HG.out.1.at 0 _ rfl
 have c5:=HG.out.1.at 5 _ rfl
 have c7:=HG.out.1.at 7 _ rfl
 obtain⟨a0,a1⟩:=HG.out.2.1
 obtain⟨b0,b1⟩:=HG.out.2.2.1
 go_wp2_with (refine zac rfl _ rfl w.heap.size x rfl HG.out.1 ?_)
 go_at_call 130
 refine (CE2.out _).mono ?_
 rintro e w3 ⟨rfl,hb⟩
 replace HG:=hid (HG.out.below hb)
 replace HW:=hid (HW.out.trans (hb.mono HW.out.size))
 clear hb c0 c5 c7 a0 a1 b0 b1
 have c0:=HG.out.1.at 0 _ rfl
 have c5:=HG.out.1.at 5 _ rfl
 have c7:=HG.out.1.at 7 _ rfl
 obtain⟨a0,a1⟩:=HG.out.2.1
 obtain⟨b0,b1⟩:=HG.out.2.2.1
 go_upto_region 12 with (refine zac rfl _ rfl w.heap.size x rfl HG.out.1 ?_)
 have HSZ:=hid HG.out.2.2.2.2
 have HFR:=hid HG.out.2.2.2.1
 refine wp_region_held_drew (S:=fun w'=>NdAt w.heap.size x w'∧RchAt (w.heap.size+1) l h w'∧RchAt (w.heap.size+2) l2 h2 w') (by kernel_rfl) ⟨HG.out.1,HG.out.2.1,HG.out.2.2.1⟩ (fun hHeld=>?_)
 replace HSZ:Hid (w.heap.size+4≤w3.drew.heap.size):=hid HSZ.out
 replace HFR:=hid (HFR.out.below (B':=w3.heap.size) (by have:=HSZ.out;simp at this;omega) (Below.refl _ _).drew)
 replace HW:=hid HW.out.drew
 clear HG c0 c5 c7 a0 a1 b0 b1
 generalize w3.drew=Wd at HSZ HFR HW hHeld ⊢
 refine Tk.x 0 rfl ?_
 try simp only [Tk.put]
 refine Tk.y 1 (v:=.int .i8 l) rfl ?_ ?_
 ·intro wS hSw
  obtain⟨-,⟨q1,q2⟩,⟨q3,q4⟩⟩:=hSw
  first | (go_simp;done) | (go_simp;with_reducible rfl)
 try simp only [Tk.put]
 refine Tk.x 2 rfl ?_
 try simp only [Tk.put]
 refine Tk.y 3 (v:=.int .i8 l2) rfl ?_ ?_
 ·intro wS hSw
  obtain⟨-,⟨q1,q2⟩,⟨q3,q4⟩⟩:=hSw
  first | (go_simp;done) | (go_simp;with_reducible rfl)
 try simp only [Tk.put]
 refine Tk.t 4 (v:=.agg x.val) rfl (zav _ rfl (by rfl) _ x rfl (fun _ q=>q.1)) (by assumption) ?_
 try simp only [Tk.put]
 refine Tk.x 6 rfl ?_
 try simp only [Tk.put]
 refine Tk.y 7 (v:=.int .i8 h) rfl ?_ ?_
 ·intro wS hSw
  obtain⟨-,⟨q1,q2⟩,⟨q3,q4⟩⟩:=hSw
  first | (go_simp;done) | (go_simp;with_reducible rfl)
 try simp only [Tk.put]
 refine Tk.x 8 rfl ?_
 try simp only [Tk.put]
 refine Tk.y 9 (v:=.int .i8 h2) rfl ?_ ?_
 ·intro wS hSw
  obtain⟨-,⟨q1,q2⟩,⟨q3,q4⟩⟩:=hSw
  first | (go_simp;done) | (go_simp;with_reducible rfl)
 try simp only [Tk.put]
 refine Tk.t 10 (v:=.agg x.val) rfl (zav _ rfl (by rfl) _ x rfl (fun _ q=>q.1)) (by assumption) ?_
 try simp only [Tk.put]
 refine Tk.s 5 rfl (fun K hK=>?_)
 go_simp
 go_at_call 169
 with_reducible refine (CO1.out _).mono ?_
 rintro e w4 ⟨rfl,hb⟩
 have hS2:=And.intro (hHeld.1.below (B:=Wd.heap.size) (by have:=HSZ.out;omega) hb) (And.intro (hHeld.2.1.below (B':=Wd.heap.size) (by have:=HSZ.out;omega) hb) (hHeld.2.2.below (B':=Wd.heap.size) (by have:=HSZ.out;omega) hb))
 replace HFR:=hid (HFR.out.below (B':=Wd.heap.size) (by have:=HSZ.out;omega) hb)
 replace HW:=hid (HW.out.trans (hb.mono HW.out.size))
 replace HSZ:=hid (Nat.le_trans HSZ.out hb.size)
 clear hb hHeld
 dsimp only
 refine hK.out _ _ hS2 (fun hHeld=>?_)
 clear hK K hS2
 try simp only [Tk.put]
 refine Tk.s 11 rfl (fun K hK=>?_)
 go_simp
 go_at_call 169
 with_reducible refine (CO2.out _).mono ?_
 rintro e w5 ⟨rfl,hb⟩
 have hS2:=And.intro (hHeld.1.below (B:=w4.heap.size) (by have:=HSZ.out;omega) hb) (And.intro (hHeld.2.1.below (B':=w4.heap.size) (by have:=HSZ.out;omega) hb) (hHeld.2.2.below (B':=w4.heap.size) (by have:=HSZ.out;omega) hb))
 replace HFR:=hid (HFR.out.below (B':=w4.heap.size) (by have:=HSZ.out;omega) hb)
 replace HW:=hid (HW.out.trans (hb.mono HW.out.size))
 replace HSZ:=hid (Nat.le_trans HSZ.out hb.size)
 clear hb hHeld
 dsimp only
 refine hK.out _ _ hS2 (fun hHeld=>?_)
 clear hK K hS2
 try simp only [Tk.put]
 refine Tk.x 12 rfl ?_
 try simp only [Tk.put]
 obtain⟨⟨z0,z1⟩,z2,z3⟩:=HFR.out
 refine Tk.s 13 rfl (fun K hK=>?_)
 go_simp
 refine hK.out _ _ ?_ (fun hHeld=>?_)
 ·exact⟨nd_other (nd_other hHeld.1 (by omega)) (by omega),zbn (zbn hHeld.2.1 (by omega)) (by omega),zbn (zbn hHeld.2.2 (by omega)) (by omega)⟩
 clear hK K
 try simp only [Tk.put]
 refine Tk.x 14 rfl ?_
 try simp only [Tk.put]
 refine wpAnyH_done (by kernel_rfl) ?_ _
 clear hHeld
 go_wp2_with fail
 refine bodyPost_ret (Kit.zaa rfl _ _ (w.heap.size+3) 0 [.int .i8 (ra),.int .i8 (rb)] _ rfl (Kit.zar (by go_cell) (by go_cell)) Tryz.underlying172 rfl (by kernel_rfl)) rfl ?_
 exact⟨rfl,(HW.out.setCell (p:=⟨w.heap.size+3,0,none⟩) (Nat.le_add_right _ _) _).setCell (p:=⟨w.heap.size+3,1,none⟩) (Nat.le_add_right _ _) _⟩
end CGuard
end
end Go.Proofs.YtfgdfignoakkaaaGreatDoor
