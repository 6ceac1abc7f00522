/- -/
import Derived.Test.YtahekhpeomcfjaaGreatDoorGJ24
open Go.Lib (hid)
open Nat (le_refl lt_of_succ_lt lt_succ_self)
set_option linter.unusedVariables false
set_option linter.unusedSimpArgs false
set_option maxRecDepth 100000
set_option maxHeartbeats 16000000
namespace Go.Proofs.YtahekhpeomcfjaaGreatDoor
namespace CConv
end CConv
namespace CKind
end CKind
namespace CSat
end CSat
namespace CShape
end CShape
namespace CTensor
end CTensor
open Go Go.ChangeShapes Go.WideShapes Go.ChangeAt Go.RowKit Go.Deep
section
namespace CRun
open Plain CSat CShape CTensor CConv CKind
theorem cnode_err (x:Nd) (H W C:Int) (A:Option Addr) (n c:Nat) (H2 W2 C2:Int) (B:Option Addr) (m d:Nat) (z:Int) (h0:z≠0) (w:World) (hK:∀ w1:World,Below w.heap.size w w1→Calls Tryz.prog 42 #[.agg x.val] w1 fun e w'=>e=.returned (.int .i64 z)∧Below w1.heap.size w1 w'):Calls Tryz.prog 28 #[.agg x.val,.agg #[.int .i64 H,.int .i64 W,.int .i64 C,.slice A n c],.agg #[.int .i64 H2,.int .i64 W2,.int .i64 C2,.slice B m d]] w (MTen w (Res.bad z)):=by
 have HCK:=hid hK
 have d1:(z != 0)=true:=by simpa using h0
 have d2:(z == 0)=false:=by simpa using h0
 clear hK
 have HE:=hid (ent2 x H W C H2 W2 C2 A B n c m d 27 w)
 go_enter Tryz.func28,Tryz.ntmps28
 go_upto_region 1 with fail
 obtain⟨W0,hW0,TN,HB,hz,TA,TB,FR⟩:=HE.out
 rw [← hW0]
 clear hW0 HE
 obtain⟨k00,k01,k02,k03⟩:=TA.out
 obtain⟨k10,k11,k12,k13⟩:=TB.out
 obtain⟨⟨z0,z1,z2,z3⟩,f0,f1,f2,f3⟩:=FR.out
 go_wp2_with (first
  | (refine zak rfl _ rfl w.heap.size x rfl TN.out ?_)
  | (go_at_call 42;(with_reducible refine (HCK.out _ HB.out).mono ?_);rintro e1 w1 ⟨rfl,hb⟩;(replace TN:=hid (TN.out.below (by omega) hb));(replace TA:=hid (TA.out.below (by omega) hb));(replace TB:=hid (TB.out.below (by omega) hb));(replace FR:=hid (FR.out.below hz hb));clear k00 k01 k02 k03 k10 k11 k12 k13 z0 z1 z2 z3 f0 f1 f2 f3;obtain⟨k00,k01,k02,k03⟩:=TA.out;obtain⟨k10,k11,k12,k13⟩:=TB.out;obtain⟨⟨z0,z1,z2,z3⟩,f0,f1,f2,f3⟩:=FR.out;have hzo:=hz;(replace hz:w.heap.size+3 < w1.heap.size:=Nat.lt_of_lt_of_le hz hb.size);(replace HB:=hid (HB.out.trans (hb.mono HB.out.size)));clear hb hzo))
 refine bodyPost_ret (Kit.zaa rfl _ _ (w.heap.size+3) 0 [.int .i64 0,.int .i64 0,.int .i64 0,.slice none 0 0] _ rfl (zbg (by go_cell) (by go_cell) (by go_cell) (by go_cell)) Tryz.underlying27 rfl (by kernel_rfl)) rfl ?_
 refine⟨_,rfl,own_none _ _,?_⟩
 exact (((HB.out.setCell (p:=⟨w.heap.size+3,0,none⟩) (Nat.le_add_right _ _) _).setCell (p:=⟨w.heap.size+3,1,none⟩) (Nat.le_add_right _ _) _).setCell (p:=⟨w.heap.size+3,2,none⟩) (Nat.le_add_right _ _) _).setCell (p:=⟨w.heap.size+3,3,none⟩) (Nat.le_add_right _ _) _
theorem cnode_bad (x:Nd) (H W C:Int) (A:Option Addr) (n c:Nat) (H2 W2 C2:Int) (B:Option Addr) (m d:Nat) (ht:tensB H W C n=false) (w:World) (hK:∀ w1:World,Below w.heap.size w w1→Calls Tryz.prog 42 #[.agg x.val] w1 fun e w'=>e=.returned (.int .i64 0)∧Below w1.heap.size w1 w'):Calls Tryz.prog 28 #[.agg x.val,.agg #[.int .i64 H,.int .i64 W,.int .i64 C,.slice A n c],.agg #[.int .i64 H2,.int .i64 W2,.int .i64 C2,.slice B m d]] w (MTen w (Res.bad 5)):=by
 have HCK:=hid hK
 have HTR:=hid (fun w=>CTensor.zac H W C A n c false ht w)
 clear hK ht
 have HE:=hid (ent2 x H W C H2 W2 C2 A B n c m d 27 w)
 go_enter Tryz.func28,Tryz.ntmps28
 go_upto_region 1 with fail
 obtain⟨W0,hW0,TN,HB,hz,TA,TB,FR⟩:=HE.out
 rw [← hW0]
 clear hW0 HE
 obtain⟨k00,k01,k02,k03⟩:=TA.out
 obtain⟨k10,k11,k12,k13⟩:=TB.out
 obtain⟨⟨z0,z1,z2,z3⟩,f0,f1,f2,f3⟩:=FR.out
 go_wp2_with (first
  | (refine zak rfl _ rfl w.heap.size x rfl TN.out ?_)
  | (go_at_call 42;(with_reducible refine (HCK.out _ HB.out).mono ?_);rintro e1 w1 ⟨rfl,hb⟩;(replace TN:=hid (TN.out.below (by omega) hb));(replace TA:=hid (TA.out.below (by omega) hb));(replace TB:=hid (TB.out.below (by omega) hb));(replace FR:=hid (FR.out.below hz hb));clear k00 k01 k02 k03 k10 k11 k12 k13 z0 z1 z2 z3 f0 f1 f2 f3;obtain⟨k00,k01,k02,k03⟩:=TA.out;obtain⟨k10,k11,k12,k13⟩:=TB.out;obtain⟨⟨z0,z1,z2,z3⟩,f0,f1,f2,f3⟩:=FR.out;have hzo:=hz;(replace hz:w.heap.size+3 < w1.heap.size:=Nat.lt_of_lt_of_le hz hb.size);(replace HB:=hid (HB.out.trans (hb.mono HB.out.size)));clear hb hzo)
  | (go_at_call 13;(with_reducible refine (HTR.out _).mono ?_);rintro e1 w1 ⟨rfl,hb⟩;(replace TN:=hid (TN.out.below (by omega) hb));(replace TA:=hid (TA.out.below (by omega) hb));(replace TB:=hid (TB.out.below (by omega) hb));(replace FR:=hid (FR.out.below hz hb));clear k00 k01 k02 k03 k10 k11 k12 k13 z0 z1 z2 z3 f0 f1 f2 f3;obtain⟨k00,k01,k02,k03⟩:=TA.out;obtain⟨k10,k11,k12,k13⟩:=TB.out;obtain⟨⟨z0,z1,z2,z3⟩,f0,f1,f2,f3⟩:=FR.out;have hzo:=hz;(replace hz:w.heap.size+3 < w1.heap.size:=Nat.lt_of_lt_of_le hz hb.size);(replace HB:=hid (HB.out.trans (hb.mono HB.out.size)));clear hb hzo))
 refine bodyPost_ret (Kit.zaa rfl _ _ (w.heap.size+3) 0 [.int .i64 0,.int .i64 0,.int .i64 0,.slice none 0 0] _ rfl (zbg (by go_cell) (by go_cell) (by go_cell) (by go_cell)) Tryz.underlying27 rfl (by kernel_rfl)) rfl ?_
 refine⟨_,rfl,own_none _ _,?_⟩
 exact (((HB.out.setCell (p:=⟨w.heap.size+3,0,none⟩) (Nat.le_add_right _ _) _).setCell (p:=⟨w.heap.size+3,1,none⟩) (Nat.le_add_right _ _) _).setCell (p:=⟨w.heap.size+3,2,none⟩) (Nat.le_add_right _ _) _).setCell (p:=⟨w.heap.size+3,3,none⟩) (Nat.le_add_right _ _) _
theorem cnode_4 (x:Nd) (hk:x.kd=4) (H W C:Int) (A:Option Addr) (n c:Nat) (H2 W2 C2:Int) (B:Option Addr) (m d:Nat) (ht:tensB H W C n=true) (r:Res) (w:World) (hK:∀ w1:World,Below w.heap.size w w1→Calls Tryz.prog 42 #[.agg x.val] w1 fun e w'=>e=.returned (.int .i64 0)∧Below w1.heap.size w1 w') (hC:∀ w1:World,Below w.heap.size w w1→Calls Tryz.prog 44 #[.agg #[.int .i64 H,.int .i64 W,.int .i64 C,.slice A n c],.agg x.val] w1 (MTen w1 r)):Calls Tryz.prog 28 #[.agg x.val,.agg #[.int .i64 H,.int .i64 W,.int .i64 C,.slice A n c],.agg #[.int .i64 H2,.int .i64 W2,.int .i64 C2,.slice B m d]] w (MTen w r):=by
 have HCK:=hid hK
 have HTR:=hid (fun w=>CTensor.zac H W C A n c true ht w)
 have HC:=hid hC
 clear hK ht hC
 have HK:=hid hk
 clear hk
 have HE:=hid (ent2 x H W C H2 W2 C2 A B n c m d 27 w)
 go_enter Tryz.func28,Tryz.ntmps28
 go_upto_region 1 with fail
 obtain⟨W0,hW0,TN,HB,hz,TA,TB,FR⟩:=HE.out
 rw [← hW0]
 clear hW0 HE
 obtain⟨k00,k01,k02,k03⟩:=TA.out
 obtain⟨k10,k11,k12,k13⟩:=TB.out
 obtain⟨⟨z0,z1,z2,z3⟩,f0,f1,f2,f3⟩:=FR.out
 have q0:=nd_k0 TN.out HK.out
 go_wp2_with (first
  | (refine zak rfl _ rfl w.heap.size x rfl TN.out ?_)
  | (go_at_call 42;(with_reducible refine (HCK.out _ HB.out).mono ?_);rintro e1 w1 ⟨rfl,hb⟩;(replace TN:=hid (TN.out.below (by omega) hb));(replace TA:=hid (TA.out.below (by omega) hb));(replace TB:=hid (TB.out.below (by omega) hb));(replace FR:=hid (FR.out.below hz hb));clear k00 k01 k02 k03 k10 k11 k12 k13 z0 z1 z2 z3 f0 f1 f2 f3;obtain⟨k00,k01,k02,k03⟩:=TA.out;obtain⟨k10,k11,k12,k13⟩:=TB.out;obtain⟨⟨z0,z1,z2,z3⟩,f0,f1,f2,f3⟩:=FR.out;clear q0;have q0:=nd_k0 TN.out HK.out;have hzo:=hz;(replace hz:w.heap.size+3 < w1.heap.size:=Nat.lt_of_lt_of_le hz hb.size);(replace HB:=hid (HB.out.trans (hb.mono HB.out.size)));clear hb hzo)
  | (go_at_call 13;(with_reducible refine (HTR.out _).mono ?_);rintro e1 w1 ⟨rfl,hb⟩;(replace TN:=hid (TN.out.below (by omega) hb));(replace TA:=hid (TA.out.below (by omega) hb));(replace TB:=hid (TB.out.below (by omega) hb));(replace FR:=hid (FR.out.below hz hb));clear k00 k01 k02 k03 k10 k11 k12 k13 z0 z1 z2 z3 f0 f1 f2 f3;obtain⟨k00,k01,k02,k03⟩:=TA.out;obtain⟨k10,k11,k12,k13⟩:=TB.out;obtain⟨⟨z0,z1,z2,z3⟩,f0,f1,f2,f3⟩:=FR.out;clear q0;have q0:=nd_k0 TN.out HK.out;have hzo:=hz;(replace hz:w.heap.size+3 < w1.heap.size:=Nat.lt_of_lt_of_le hz hb.size);(replace HB:=hid (HB.out.trans (hb.mono HB.out.size)));clear hb hzo)
  | (go_at_call 44;(with_reducible refine (HC.out _ HB.out).mono ?_);rintro e1 w1 ⟨v,rfl,ho,hb⟩;(replace TN:=hid (TN.out.below (by omega) hb));(replace TA:=hid (TA.out.below (by omega) hb));(replace TB:=hid (TB.out.below (by omega) hb));(replace FR:=hid (FR.out.below hz hb));clear k00 k01 k02 k03 k10 k11 k12 k13 z0 z1 z2 z3 f0 f1 f2 f3;obtain⟨k00,k01,k02,k03⟩:=TA.out;obtain⟨k10,k11,k12,k13⟩:=TB.out;obtain⟨⟨z0,z1,z2,z3⟩,f0,f1,f2,f3⟩:=FR.out;have hzo:=hz;(replace hz:w.heap.size+3 < w1.heap.size:=Nat.lt_of_lt_of_le hz hb.size);have HO:=hid (Kit.zah ho (show w.heap.size+3+1≤_ from hzo));have HZO:=hid (lt_succ_self (w.heap.size+3));obtain⟨A2,c2,rfl, -, -, -⟩:=Kit.zam ho;(replace HB:=hid (HB.out.trans (hb.mono HB.out.size)));clear ho hb))
 refine bodyPost_ret (Kit.zaa rfl _ _ (w.heap.size+3) 0 [.int .i64 r.X,.int .i64 r.Y,.int .i64 r.U,.slice A2 r.m c2] _ rfl (zbg (by go_cell) (by go_cell) (by go_cell) (by go_cell)) Tryz.underlying27 rfl (by kernel_rfl)) rfl ?_
 refine⟨_,rfl,Kit.zah (za3 HO.out HZO.out) (by omega),?_⟩
 exact (((HB.out.setCell (p:=⟨w.heap.size+3,0,none⟩) (Nat.le_add_right _ _) _).setCell (p:=⟨w.heap.size+3,1,none⟩) (Nat.le_add_right _ _) _).setCell (p:=⟨w.heap.size+3,2,none⟩) (Nat.le_add_right _ _) _).setCell (p:=⟨w.heap.size+3,3,none⟩) (Nat.le_add_right _ _) _
theorem cnode_5 (x:Nd) (hk:x.kd=5) (H W C:Int) (A:Option Addr) (n c:Nat) (H2 W2 C2:Int) (B:Option Addr) (m d:Nat) (ht:tensB H W C n=true) (r:Res) (w:World) (hK:∀ w1:World,Below w.heap.size w w1→Calls Tryz.prog 42 #[.agg x.val] w1 fun e w'=>e=.returned (.int .i64 0)∧Below w1.heap.size w1 w') (hC:∀ w1:World,Below w.heap.size w w1→Calls Tryz.prog 45 #[.agg #[.int .i64 H,.int .i64 W,.int .i64 C,.slice A n c],.agg x.val] w1 (MTen w1 r)):Calls Tryz.prog 28 #[.agg x.val,.agg #[.int .i64 H,.int .i64 W,.int .i64 C,.slice A n c],.agg #[.int .i64 H2,.int .i64 W2,.int .i64 C2,.slice B m d]] w (MTen w r):=by
 have HCK:=hid hK
 have HTR:=hid (fun w=>CTensor.zac H W C A n c true ht w)
 have HC:=hid hC
 clear hK ht hC
 have HK:=hid hk
 clear hk
 have HE:=hid (ent2 x H W C H2 W2 C2 A B n c m d 27 w)
 go_enter Tryz.func28,Tryz.ntmps28
 go_upto_region 1 with fail
 obtain⟨W0,hW0,TN,HB,hz,TA,TB,FR⟩:=HE.out
 rw [← hW0]
 clear hW0 HE
 obtain⟨k00,k01,k02,k03⟩:=TA.out
 obtain⟨k10,k11,k12,k13⟩:=TB.out
 obtain⟨⟨z0,z1,z2,z3⟩,f0,f1,f2,f3⟩:=FR.out
 have q0:=nd_k0 TN.out HK.out
 go_wp2_with (first
  | (refine zak rfl _ rfl w.heap.size x rfl TN.out ?_)
  | (go_at_call 42;(with_reducible refine (HCK.out _ HB.out).mono ?_);rintro e1 w1 ⟨rfl,hb⟩;(replace TN:=hid (TN.out.below (by omega) hb));(replace TA:=hid (TA.out.below (by omega) hb));(replace TB:=hid (TB.out.below (by omega) hb));(replace FR:=hid (FR.out.below hz hb));clear k00 k01 k02 k03 k10 k11 k12 k13 z0 z1 z2 z3 f0 f1 f2 f3;obtain⟨k00,k01,k02,k03⟩:=TA.out;obtain⟨k10,k11,k12,k13⟩:=TB.out;obtain⟨⟨z0,z1,z2,z3⟩,f0,f1,f2,f3⟩:=FR.out;clear q0;have q0:=nd_k0 TN.out HK.out;have hzo:=hz;(replace hz:w.heap.size+3 < w1.heap.size:=Nat.lt_of_lt_of_le hz hb.size);(replace HB:=hid (HB.out.trans (hb.mono HB.out.size)));clear hb hzo)
  | (go_at_call 13;(with_reducible refine (HTR.out _).mono ?_);rintro e1 w1 ⟨rfl,hb⟩;(replace TN:=hid (TN.out.below (by omega) hb));(replace TA:=hid (TA.out.below (by omega) hb));(replace TB:=hid (TB.out.below (by omega) hb));(replace FR:=hid (FR.out.below hz hb));clear k00 k01 k02 k03 k10 k11 k12 k13 z0 z1 z2 z3 f0 f1 f2 f3;obtain⟨k00,k01,k02,k03⟩:=TA.out;obtain⟨k10,k11,k12,k13⟩:=TB.out;obtain⟨⟨z0,z1,z2,z3⟩,f0,f1,f2,f3⟩:=FR.out;clear q0;have q0:=nd_k0 TN.out HK.out;have hzo:=hz;(replace hz:w.heap.size+3 < w1.heap.size:=Nat.lt_of_lt_of_le hz hb.size);(replace HB:=hid (HB.out.trans (hb.mono HB.out.size)));clear hb hzo)
  | (go_at_call 45;(with_reducible refine (HC.out _ HB.out).mono ?_);rintro e1 w1 ⟨v,rfl,ho,hb⟩;(replace TN:=hid (TN.out.below (by omega) hb));(replace TA:=hid (TA.out.below (by omega) hb));(replace TB:=hid (TB.out.below (by omega) hb));(replace FR:=hid (FR.out.below hz hb));clear k00 k01 k02 k03 k10 k11 k12 k13 z0 z1 z2 z3 f0 f1 f2 f3;obtain⟨k00,k01,k02,k03⟩:=TA.out;obtain⟨k10,k11,k12,k13⟩:=TB.out;obtain⟨⟨z0,z1,z2,z3⟩,f0,f1,f2,f3⟩:=FR.out;have hzo:=hz;(replace hz:w.heap.size+3 < w1.heap.size:=Nat.lt_of_lt_of_le hz hb.size);have HO:=hid (Kit.zah ho (show w.heap.size+3+1≤_ from hzo));have HZO:=hid (lt_succ_self (w.heap.size+3));obtain⟨A2,c2,rfl, -, -, -⟩:=Kit.zam ho;(replace HB:=hid (HB.out.trans (hb.mono HB.out.size)));clear ho hb))
 refine bodyPost_ret (Kit.zaa rfl _ _ (w.heap.size+3) 0 [.int .i64 r.X,.int .i64 r.Y,.int .i64 r.U,.slice A2 r.m c2] _ rfl (zbg (by go_cell) (by go_cell) (by go_cell) (by go_cell)) Tryz.underlying27 rfl (by kernel_rfl)) rfl ?_
 refine⟨_,rfl,Kit.zah (za3 HO.out HZO.out) (by omega),?_⟩
 exact (((HB.out.setCell (p:=⟨w.heap.size+3,0,none⟩) (Nat.le_add_right _ _) _).setCell (p:=⟨w.heap.size+3,1,none⟩) (Nat.le_add_right _ _) _).setCell (p:=⟨w.heap.size+3,2,none⟩) (Nat.le_add_right _ _) _).setCell (p:=⟨w.heap.size+3,3,none⟩) (Nat.le_add_right _ _) _
theorem cnode_6 (x:Nd) (hk:x.kd=6) (H W C:Int) (A:Option Addr) (n c:Nat) (H2 W2 C2:Int) (B:Option Addr) (m d:Nat) (ht:tensB H W C n=true) (r:Res) (w:World) (hK:∀ w1:World,Below w.heap.size w w1→Calls Tryz.prog 42 #[.agg x.val] w1 fun e w'=>e=.returned (.int .i64 0)∧Below w1.heap.size w1 w') (hC:∀ w1:World,Below w.heap.size w w1→Calls Tryz.prog 46 #[.agg #[.int .i64 H,.int .i64 W,.int .i64 C,.slice A n c],.agg #[.int .i64 H2,.int .i64 W2,.int .i64 C2,.slice B m d],.agg x.val] w1 (MTen w1 r)):Calls Tryz.prog 28 #[.agg x.val,.agg #[.int .i64 H,.int .i64 W,.int .i64 C,.slice A n c],.agg #[.int .i64 H2,.int .i64 W2,.int .i64 C2,.slice B m d]] w (MTen w r):=by
 have HCK:=hid hK
 have HTR:=hid (fun w=>CTensor.zac H W C A n c true ht w)
 have HC:=hid hC
 clear hK ht hC
 have HK:=hid hk
 clear hk
 have HE:=hid (ent2 x H W C H2 W2 C2 A B n c m d 27 w)
 go_enter Tryz.func28,Tryz.ntmps28
 go_upto_region 1 with fail
 obtain⟨W0,hW0,TN,HB,hz,TA,TB,FR⟩:=HE.out
 rw [← hW0]
 clear hW0 HE
 obtain⟨k00,k01,k02,k03⟩:=TA.out
 obtain⟨k10,k11,k12,k13⟩:=TB.out
 obtain⟨⟨z0,z1,z2,z3⟩,f0,f1,f2,f3⟩:=FR.out
 have q0:=nd_k0 TN.out HK.out
 go_wp2_with (first
  | (refine zak rfl _ rfl w.heap.size x rfl TN.out ?_)
  | (go_at_call 42;(with_reducible refine (HCK.out _ HB.out).mono ?_);rintro e1 w1 ⟨rfl,hb⟩;(replace TN:=hid (TN.out.below (by omega) hb));(replace TA:=hid (TA.out.below (by omega) hb));(replace TB:=hid (TB.out.below (by omega) hb));(replace FR:=hid (FR.out.below hz hb));clear k00 k01 k02 k03 k10 k11 k12 k13 z0 z1 z2 z3 f0 f1 f2 f3;obtain⟨k00,k01,k02,k03⟩:=TA.out;obtain⟨k10,k11,k12,k13⟩:=TB.out;obtain⟨⟨z0,z1,z2,z3⟩,f0,f1,f2,f3⟩:=FR.out;clear q0;have q0:=nd_k0 TN.out HK.out;have hzo:=hz;(replace hz:w.heap.size+3 < w1.heap.size:=Nat.lt_of_lt_of_le hz hb.size);(replace HB:=hid (HB.out.trans (hb.mono HB.out.size)));clear hb hzo)
  | (go_at_call 13;(with_reducible refine (HTR.out _).mono ?_);rintro e1 w1 ⟨rfl,hb⟩;(replace TN:=hid (TN.out.below (by omega) hb));(replace TA:=hid (TA.out.below (by omega) hb));(replace TB:=hid (TB.out.below (by omega) hb));(replace FR:=hid (FR.out.below hz hb));clear k00 k01 k02 k03 k10 k11 k12 k13 z0 z1 z2 z3 f0 f1 f2 f3;obtain⟨k00,k01,k02,k03⟩:=TA.out;obtain⟨k10,k11,k12,k13⟩:=TB.out;obtain⟨⟨z0,z1,z2,z3⟩,f0,f1,f2,f3⟩:=FR.out;clear q0;have q0:=nd_k0 TN.out HK.out;have hzo:=hz;(replace hz:w.heap.size+3 < w1.heap.size:=Nat.lt_of_lt_of_le hz hb.size);(replace HB:=hid (HB.out.trans (hb.mono HB.out.size)));clear hb hzo)
  | (go_at_call 46;(with_reducible refine (HC.out _ HB.out).mono ?_);rintro e1 w1 ⟨v,rfl,ho,hb⟩;(replace TN:=hid (TN.out.below (by omega) hb));(replace TA:=hid (TA.out.below (by omega) hb));(replace TB:=hid (TB.out.below (by omega) hb));(replace FR:=hid (FR.out.below hz hb));clear k00 k01 k02 k03 k10 k11 k12 k13 z0 z1 z2 z3 f0 f1 f2 f3;obtain⟨k00,k01,k02,k03⟩:=TA.out;obtain⟨k10,k11,k12,k13⟩:=TB.out;obtain⟨⟨z0,z1,z2,z3⟩,f0,f1,f2,f3⟩:=FR.out;have hzo:=hz;(replace hz:w.heap.size+3 < w1.heap.size:=Nat.lt_of_lt_of_le hz hb.size);have HO:=hid (Kit.zah ho (show w.heap.size+3+1≤_ from hzo));have HZO:=hid (lt_succ_self (w.heap.size+3));obtain⟨A2,c2,rfl, -, -, -⟩:=Kit.zam ho;(replace HB:=hid (HB.out.trans (hb.mono HB.out.size)));clear ho hb))
 refine bodyPost_ret (Kit.zaa rfl _ _ (w.heap.size+3) 0 [.int .i64 r.X,.int .i64 r.Y,.int .i64 r.U,.slice A2 r.m c2] _ rfl (zbg (by go_cell) (by go_cell) (by go_cell) (by go_cell)) Tryz.underlying27 rfl (by kernel_rfl)) rfl ?_
 refine⟨_,rfl,Kit.zah (za3 HO.out HZO.out) (by omega),?_⟩
 exact (((HB.out.setCell (p:=⟨w.heap.size+3,0,none⟩) (Nat.le_add_right _ _) _).setCell (p:=⟨w.heap.size+3,1,none⟩) (Nat.le_add_right _ _) _).setCell (p:=⟨w.heap.size+3,2,none⟩) (Nat.le_add_right _ _) _).setCell (p:=⟨w.heap.size+3,3,none⟩) (Nat.le_add_right _ _) _
theorem cnode_7 (x:Nd) (hk:x.kd=7) (H W C:Int) (A:Option Addr) (n c:Nat) (H2 W2 C2:Int) (B:Option Addr) (m d:Nat) (ht:tensB H W C n=true) (r:Res) (w:World) (hK:∀ w1:World,Below w.heap.size w w1→Calls Tryz.prog 42 #[.agg x.val] w1 fun e w'=>e=.returned (.int .i64 0)∧Below w1.heap.size w1 w') (hC:∀ w1:World,Below w.heap.size w w1→Calls Tryz.prog 47 #[.agg #[.int .i64 H,.int .i64 W,.int .i64 C,.slice A n c],.agg x.val] w1 (MTen w1 r)):Calls Tryz.prog 28 #[.agg x.val,.agg #[.int .i64 H,.int .i64 W,.int .i64 C,.slice A n c],.agg #[.int .i64 H2,.int .i64 W2,.int .i64 C2,.slice B m d]] w (MTen w r):=by
 have HCK:=hid hK
 have HTR:=hid (fun w=>CTensor.zac H W C A n c true ht w)
 have HC:=hid hC
 clear hK ht hC
 have HK:=hid hk
 clear hk
 have HE:=hid (ent2 x H W C H2 W2 C2 A B n c m d 27 w)
 go_enter Tryz.func28,Tryz.ntmps28
 go_upto_region 1 with fail
 obtain⟨W0,hW0,TN,HB,hz,TA,TB,FR⟩:=HE.out
 rw [← hW0]
 clear hW0 HE
 obtain⟨k00,k01,k02,k03⟩:=TA.out
 obtain⟨k10,k11,k12,k13⟩:=TB.out
 obtain⟨⟨z0,z1,z2,z3⟩,f0,f1,f2,f3⟩:=FR.out
 have q0:=nd_k0 TN.out HK.out
 go_wp2_with (first
  | (refine zak rfl _ rfl w.heap.size x rfl TN.out ?_)
  | (go_at_call 42;(with_reducible refine (HCK.out _ HB.out).mono ?_);rintro e1 w1 ⟨rfl,hb⟩;(replace TN:=hid (TN.out.below (by omega) hb));(replace TA:=hid (TA.out.below (by omega) hb));(replace TB:=hid (TB.out.below (by omega) hb));(replace FR:=hid (FR.out.below hz hb));clear k00 k01 k02 k03 k10 k11 k12 k13 z0 z1 z2 z3 f0 f1 f2 f3;obtain⟨k00,k01,k02,k03⟩:=TA.out;obtain⟨k10,k11,k12,k13⟩:=TB.out;obtain⟨⟨z0,z1,z2,z3⟩,f0,f1,f2,f3⟩:=FR.out;clear q0;have q0:=nd_k0 TN.out HK.out;have hzo:=hz;(replace hz:w.heap.size+3 < w1.heap.size:=Nat.lt_of_lt_of_le hz hb.size);(replace HB:=hid (HB.out.trans (hb.mono HB.out.size)));clear hb hzo)
  | (go_at_call 13;(with_reducible refine (HTR.out _).mono ?_);rintro e1 w1 ⟨rfl,hb⟩;(replace TN:=hid (TN.out.below (by omega) hb));(replace TA:=hid (TA.out.below (by omega) hb));(replace TB:=hid (TB.out.below (by omega) hb));(replace FR:=hid (FR.out.below hz hb));clear k00 k01 k02 k03 k10 k11 k12 k13 z0 z1 z2 z3 f0 f1 f2 f3;obtain⟨k00,k01,k02,k03⟩:=TA.out;obtain⟨k10,k11,k12,k13⟩:=TB.out;obtain⟨⟨z0,z1,z2,z3⟩,f0,f1,f2,f3⟩:=FR.out;clear q0;have q0:=nd_k0 TN.out HK.out;have hzo:=hz;(replace hz:w.heap.size+3 < w1.heap.size:=Nat.lt_of_lt_of_le hz hb.size);(replace HB:=hid (HB.out.trans (hb.mono HB.out.size)));clear hb hzo)
  | (go_at_call 47;(with_reducible refine (HC.out _ HB.out).mono ?_);rintro e1 w1 ⟨v,rfl,ho,hb⟩;(replace TN:=hid (TN.out.below (by omega) hb));(replace TA:=hid (TA.out.below (by omega) hb));(replace TB:=hid (TB.out.below (by omega) hb));(replace FR:=hid (FR.out.below hz hb));clear k00 k01 k02 k03 k10 k11 k12 k13 z0 z1 z2 z3 f0 f1 f2 f3;obtain⟨k00,k01,k02,k03⟩:=TA.out;obtain⟨k10,k11,k12,k13⟩:=TB.out;obtain⟨⟨z0,z1,z2,z3⟩,f0,f1,f2,f3⟩:=FR.out;have hzo:=hz;(replace hz:w.heap.size+3 < w1.heap.size:=Nat.lt_of_lt_of_le hz hb.size);have HO:=hid (Kit.zah ho (show w.heap.size+3+1≤_ from hzo));have HZO:=hid (lt_succ_self (w.heap.size+3));obtain⟨A2,c2,rfl, -, -, -⟩:=Kit.zam ho;(replace HB:=hid (HB.out.trans (hb.mono HB.out.size)));clear ho hb))
 refine bodyPost_ret (Kit.zaa rfl _ _ (w.heap.size+3) 0 [.int .i64 r.X,.int .i64 r.Y,.int .i64 r.U,.slice A2 r.m c2] _ rfl (zbg (by go_cell) (by go_cell) (by go_cell) (by go_cell)) Tryz.underlying27 rfl (by kernel_rfl)) rfl ?_
 refine⟨_,rfl,Kit.zah (za3 HO.out HZO.out) (by omega),?_⟩
 exact (((HB.out.setCell (p:=⟨w.heap.size+3,0,none⟩) (Nat.le_add_right _ _) _).setCell (p:=⟨w.heap.size+3,1,none⟩) (Nat.le_add_right _ _) _).setCell (p:=⟨w.heap.size+3,2,none⟩) (Nat.le_add_right _ _) _).setCell (p:=⟨w.heap.size+3,3,none⟩) (Nat.le_add_right _ _) _
theorem cnode_8 (x:Nd) (hk:x.kd=8) (H W C:Int) (A:Option Addr) (n c:Nat) (H2 W2 C2:Int) (B:Option Addr) (m d:Nat) (ht:tensB H W C n=true) (r:Res) (w:World) (hK:∀ w1:World,Below w.heap.size w w1→Calls Tryz.prog 42 #[.agg x.val] w1 fun e w'=>e=.returned (.int .i64 0)∧Below w1.heap.size w1 w') (hC:∀ w1:World,Below w.heap.size w w1→Calls Tryz.prog 48 #[.agg #[.int .i64 H,.int .i64 W,.int .i64 C,.slice A n c],.int .i64 x.P,.int .i8 x.Z] w1 (MTen w1 r)):Calls Tryz.prog 28 #[.agg x.val,.agg #[.int .i64 H,.int .i64 W,.int .i64 C,.slice A n c],.agg #[.int .i64 H2,.int .i64 W2,.int .i64 C2,.slice B m d]] w (MTen w r):=by
 have HCK:=hid hK
 have HTR:=hid (fun w=>CTensor.zac H W C A n c true ht w)
 have HC:=hid hC
 clear hK ht hC
 have HK:=hid hk
 clear hk
 have HE:=hid (ent2 x H W C H2 W2 C2 A B n c m d 27 w)
 go_enter Tryz.func28,Tryz.ntmps28
 go_upto_region 1 with fail
 obtain⟨W0,hW0,TN,HB,hz,TA,TB,FR⟩:=HE.out
 rw [← hW0]
 clear hW0 HE
 obtain⟨k00,k01,k02,k03⟩:=TA.out
 obtain⟨k10,k11,k12,k13⟩:=TB.out
 obtain⟨⟨z0,z1,z2,z3⟩,f0,f1,f2,f3⟩:=FR.out
 have q0:=nd_k0 TN.out HK.out
 have q5:=TN.out.at 5 (.int .i64 x.P) rfl
 have q7:=TN.out.at 7 (.int .i8 x.Z) rfl
 go_wp2_with (first
  | (refine zak rfl _ rfl w.heap.size x rfl TN.out ?_)
  | (go_at_call 42;(with_reducible refine (HCK.out _ HB.out).mono ?_);rintro e1 w1 ⟨rfl,hb⟩;(replace TN:=hid (TN.out.below (by omega) hb));(replace TA:=hid (TA.out.below (by omega) hb));(replace TB:=hid (TB.out.below (by omega) hb));(replace FR:=hid (FR.out.below hz hb));clear k00 k01 k02 k03 k10 k11 k12 k13 z0 z1 z2 z3 f0 f1 f2 f3;obtain⟨k00,k01,k02,k03⟩:=TA.out;obtain⟨k10,k11,k12,k13⟩:=TB.out;obtain⟨⟨z0,z1,z2,z3⟩,f0,f1,f2,f3⟩:=FR.out;clear q0;have q0:=nd_k0 TN.out HK.out;clear q5 q7;have q5:=TN.out.at 5 (.int .i64 x.P) rfl;have q7:=TN.out.at 7 (.int .i8 x.Z) rfl;have hzo:=hz;(replace hz:w.heap.size+3 < w1.heap.size:=Nat.lt_of_lt_of_le hz hb.size);(replace HB:=hid (HB.out.trans (hb.mono HB.out.size)));clear hb hzo)
  | (go_at_call 13;(with_reducible refine (HTR.out _).mono ?_);rintro e1 w1 ⟨rfl,hb⟩;(replace TN:=hid (TN.out.below (by omega) hb));(replace TA:=hid (TA.out.below (by omega) hb));(replace TB:=hid (TB.out.below (by omega) hb));(replace FR:=hid (FR.out.below hz hb));clear k00 k01 k02 k03 k10 k11 k12 k13 z0 z1 z2 z3 f0 f1 f2 f3;obtain⟨k00,k01,k02,k03⟩:=TA.out;obtain⟨k10,k11,k12,k13⟩:=TB.out;obtain⟨⟨z0,z1,z2,z3⟩,f0,f1,f2,f3⟩:=FR.out;clear q0;have q0:=nd_k0 TN.out HK.out;clear q5 q7;have q5:=TN.out.at 5 (.int .i64 x.P) rfl;have q7:=TN.out.at 7 (.int .i8 x.Z) rfl;have hzo:=hz;(replace hz:w.heap.size+3 < w1.heap.size:=Nat.lt_of_lt_of_le hz hb.size);(replace HB:=hid (HB.out.trans (hb.mono HB.out.size)));clear hb hzo)
  | (go_at_call 48;(with_reducible refine (HC.out _ HB.out).mono ?_);rintro e1 w1 ⟨v,rfl,ho,hb⟩;(replace TN:=hid (TN.out.below (by omega) hb));(replace TA:=hid (TA.out.below (by omega) hb));(replace TB:=hid (TB.out.below (by omega) hb));(replace FR:=hid (FR.out.below hz hb));clear k00 k01 k02 k03 k10 k11 k12 k13 z0 z1 z2 z3 f0 f1 f2 f3;obtain⟨k00,k01,k02,k03⟩:=TA.out;obtain⟨k10,k11,k12,k13⟩:=TB.out;obtain⟨⟨z0,z1,z2,z3⟩,f0,f1,f2,f3⟩:=FR.out;have hzo:=hz;(replace hz:w.heap.size+3 < w1.heap.size:=Nat.lt_of_lt_of_le hz hb.size);have HO:=hid (Kit.zah ho (show w.heap.size+3+1≤_ from hzo));have HZO:=hid (lt_succ_self (w.heap.size+3));obtain⟨A2,c2,rfl, -, -, -⟩:=Kit.zam ho;(replace HB:=hid (HB.out.trans (hb.mono HB.out.size)));clear ho hb))
 refine bodyPost_ret (Kit.zaa rfl _ _ (w.heap.size+3) 0 [.int .i64 r.X,.int .i64 r.Y,.int .i64 r.U,.slice A2 r.m c2] _ rfl (zbg (by go_cell) (by go_cell) (by go_cell) (by go_cell)) Tryz.underlying27 rfl (by kernel_rfl)) rfl ?_
 refine⟨_,rfl,Kit.zah (za3 HO.out HZO.out) (by omega),?_⟩
 exact (((HB.out.setCell (p:=⟨w.heap.size+3,0,none⟩) (Nat.le_add_right _ _) _).setCell (p:=⟨w.heap.size+3,1,none⟩) (Nat.le_add_right _ _) _).setCell (p:=⟨w.heap.size+3,2,none⟩) (Nat.le_add_right _ _) _).setCell (p:=⟨w.heap.size+3,3,none⟩) (Nat.le_add_right _ _) _
theorem cnode_9 (x:Nd) (hk:x.kd=9) (H W C:Int) (A:Option Addr) (n c:Nat) (H2 W2 C2:Int) (B:Option Addr) (m d:Nat) (ht:tensB H W C n=true) (r:Res) (w:World) (hK:∀ w1:World,Below w.heap.size w w1→Calls Tryz.prog 42 #[.agg x.val] w1 fun e w'=>e=.returned (.int .i64 0)∧Below w1.heap.size w1 w') (hC:∀ w1:World,Below w.heap.size w w1→Calls Tryz.prog 49 #[.agg #[.int .i64 H,.int .i64 W,.int .i64 C,.slice A n c]] w1 (MTen w1 r)):Calls Tryz.prog 28 #[.agg x.val,.agg #[.int .i64 H,.int .i64 W,.int .i64 C,.slice A n c],.agg #[.int .i64 H2,.int .i64 W2,.int .i64 C2,.slice B m d]] w (MTen w r):=by
 have HCK:=hid hK
 have HTR:=hid (fun w=>CTensor.zac H W C A n c true ht w)
 have HC:=hid hC
 clear hK ht hC
 have HK:=hid hk
 clear hk
 have HE:=hid (ent2 x H W C H2 W2 C2 A B n c m d 27 w)
 go_enter Tryz.func28,Tryz.ntmps28
 go_upto_region 1 with fail
 obtain⟨W0,hW0,TN,HB,hz,TA,TB,FR⟩:=HE.out
 rw [← hW0]
 clear hW0 HE
 obtain⟨k00,k01,k02,k03⟩:=TA.out
 obtain⟨k10,k11,k12,k13⟩:=TB.out
 obtain⟨⟨z0,z1,z2,z3⟩,f0,f1,f2,f3⟩:=FR.out
 have q0:=nd_k0 TN.out HK.out
 go_wp2_with (first
  | (refine zak rfl _ rfl w.heap.size x rfl TN.out ?_)
  | (go_at_call 42;(with_reducible refine (HCK.out _ HB.out).mono ?_);rintro e1 w1 ⟨rfl,hb⟩;(replace TN:=hid (TN.out.below (by omega) hb));(replace TA:=hid (TA.out.below (by omega) hb));(replace TB:=hid (TB.out.below (by omega) hb));(replace FR:=hid (FR.out.below hz hb));clear k00 k01 k02 k03 k10 k11 k12 k13 z0 z1 z2 z3 f0 f1 f2 f3;obtain⟨k00,k01,k02,k03⟩:=TA.out;obtain⟨k10,k11,k12,k13⟩:=TB.out;obtain⟨⟨z0,z1,z2,z3⟩,f0,f1,f2,f3⟩:=FR.out;clear q0;have q0:=nd_k0 TN.out HK.out;have hzo:=hz;(replace hz:w.heap.size+3 < w1.heap.size:=Nat.lt_of_lt_of_le hz hb.size);(replace HB:=hid (HB.out.trans (hb.mono HB.out.size)));clear hb hzo)
  | (go_at_call 13;(with_reducible refine (HTR.out _).mono ?_);rintro e1 w1 ⟨rfl,hb⟩;(replace TN:=hid (TN.out.below (by omega) hb));(replace TA:=hid (TA.out.below (by omega) hb));(replace TB:=hid (TB.out.below (by omega) hb));(replace FR:=hid (FR.out.below hz hb));clear k00 k01 k02 k03 k10 k11 k12 k13 z0 z1 z2 z3 f0 f1 f2 f3;obtain⟨k00,k01,k02,k03⟩:=TA.out;obtain⟨k10,k11,k12,k13⟩:=TB.out;obtain⟨⟨z0,z1,z2,z3⟩,f0,f1,f2,f3⟩:=FR.out;clear q0;have q0:=nd_k0 TN.out HK.out;have hzo:=hz;(replace hz:w.heap.size+3 < w1.heap.size:=Nat.lt_of_lt_of_le hz hb.size);(replace HB:=hid (HB.out.trans (hb.mono HB.out.size)));clear hb hzo)
  | (go_at_call 49;(with_reducible refine (HC.out _ HB.out).mono ?_);rintro e1 w1 ⟨v,rfl,ho,hb⟩;(replace TN:=hid (TN.out.below (by omega) hb));(replace TA:=hid (TA.out.below (by omega) hb));(replace TB:=hid (TB.out.below (by omega) hb));(replace FR:=hid (FR.out.below hz hb));clear k00 k01 k02 k03 k10 k11 k12 k13 z0 z1 z2 z3 f0 f1 f2 f3;obtain⟨k00,k01,k02,k03⟩:=TA.out;obtain⟨k10,k11,k12,k13⟩:=TB.out;obtain⟨⟨z0,z1,z2,z3⟩,f0,f1,f2,f3⟩:=FR.out;have hzo:=hz;(replace hz:w.heap.size+3 < w1.heap.size:=Nat.lt_of_lt_of_le hz hb.size);have HO:=hid (Kit.zah ho (show w.heap.size+3+1≤_ from hzo));have HZO:=hid (lt_succ_self (w.heap.size+3));obtain⟨A2,c2,rfl, -, -, -⟩:=Kit.zam ho;(replace HB:=hid (HB.out.trans (hb.mono HB.out.size)));clear ho hb))
 refine bodyPost_ret (Kit.zaa rfl _ _ (w.heap.size+3) 0 [.int .i64 r.X,.int .i64 r.Y,.int .i64 r.U,.slice A2 r.m c2] _ rfl (zbg (by go_cell) (by go_cell) (by go_cell) (by go_cell)) Tryz.underlying27 rfl (by kernel_rfl)) rfl ?_
 refine⟨_,rfl,Kit.zah (za3 HO.out HZO.out) (by omega),?_⟩
 exact (((HB.out.setCell (p:=⟨w.heap.size+3,0,none⟩) (Nat.le_add_right _ _) _).setCell (p:=⟨w.heap.size+3,1,none⟩) (Nat.le_add_right _ _) _).setCell (p:=⟨w.heap.size+3,2,none⟩) (Nat.le_add_right _ _) _).setCell (p:=⟨w.heap.size+3,3,none⟩) (Nat.le_add_right _ _) _
theorem cnode_sum (x:Nd) (hk:x.kd=1∨x.kd=2∨x.kd=3) (H W C:Int) (A:Option Addr) (n c:Nat) (H2 W2 C2:Int) (B:Option Addr) (m d:Nat) (ht:tensB H W C n=true) (r:Res) (w:World) (hK:∀ w1:World,Below w.heap.size w w1→Calls Tryz.prog 42 #[.agg x.val] w1 fun e w'=>e=.returned (.int .i64 0)∧Below w1.heap.size w1 w') (hC:∀ w1:World,Below w.heap.size w w1→Calls Tryz.prog 50 #[.agg x.val,.agg #[.int .i64 H,.int .i64 W,.int .i64 C,.slice A n c]] w1 (MTen w1 r)):Calls Tryz.prog 28 #[.agg x.val,.agg #[.int .i64 H,.int .i64 W,.int .i64 C,.slice A n c],.agg #[.int .i64 H2,.int .i64 W2,.int .i64 C2,.slice B m d]] w (MTen w r):=by
 have HCK:=hid hK
 have HTR:=hid (fun w=>CTensor.zac H W C A n c true ht w)
 have HC:=hid hC
 clear hK ht hC
 have HK:=hid hk
 clear hk
 have HE:=hid (ent2 x H W C H2 W2 C2 A B n c m d 27 w)
 go_enter Tryz.func28,Tryz.ntmps28
 go_upto_region 1 with fail
 obtain⟨W0,hW0,TN,HB,hz,TA,TB,FR⟩:=HE.out
 rw [← hW0]
 clear hW0 HE
 obtain⟨k00,k01,k02,k03⟩:=TA.out
 obtain⟨k10,k11,k12,k13⟩:=TB.out
 obtain⟨⟨z0,z1,z2,z3⟩,f0,f1,f2,f3⟩:=FR.out
 have q0:=TN.out.at 0 (.int .i64 x.kd) rfl
 have hk:=HK.out
 have e4:(x.kd == 4)=false:=by simp;omega
 have g4:¬ x.kd=4:=by omega
 have e5:(x.kd == 5)=false:=by simp;omega
 have g5:¬ x.kd=5:=by omega
 have e6:(x.kd == 6)=false:=by simp;omega
 have g6:¬ x.kd=6:=by omega
 have e7:(x.kd == 7)=false:=by simp;omega
 have g7:¬ x.kd=7:=by omega
 have e8:(x.kd == 8)=false:=by simp;omega
 have g8:¬ x.kd=8:=by omega
 have e9:(x.kd == 9)=false:=by simp;omega
 have g9:¬ x.kd=9:=by omega
 clear hk
 go_wp2_with (first
  | (refine zak rfl _ rfl w.heap.size x rfl TN.out ?_)
  | (go_at_call 42;(with_reducible refine (HCK.out _ HB.out).mono ?_);rintro e1 w1 ⟨rfl,hb⟩;(replace TN:=hid (TN.out.below (by omega) hb));(replace TA:=hid (TA.out.below (by omega) hb));(replace TB:=hid (TB.out.below (by omega) hb));(replace FR:=hid (FR.out.below hz hb));clear k00 k01 k02 k03 k10 k11 k12 k13 z0 z1 z2 z3 f0 f1 f2 f3;obtain⟨k00,k01,k02,k03⟩:=TA.out;obtain⟨k10,k11,k12,k13⟩:=TB.out;obtain⟨⟨z0,z1,z2,z3⟩,f0,f1,f2,f3⟩:=FR.out;clear q0;have q0:=TN.out.at 0 (.int .i64 x.kd) rfl;have hzo:=hz;(replace hz:w.heap.size+3 < w1.heap.size:=Nat.lt_of_lt_of_le hz hb.size);(replace HB:=hid (HB.out.trans (hb.mono HB.out.size)));clear hb hzo)
  | (go_at_call 13;(with_reducible refine (HTR.out _).mono ?_);rintro e1 w1 ⟨rfl,hb⟩;(replace TN:=hid (TN.out.below (by omega) hb));(replace TA:=hid (TA.out.below (by omega) hb));(replace TB:=hid (TB.out.below (by omega) hb));(replace FR:=hid (FR.out.below hz hb));clear k00 k01 k02 k03 k10 k11 k12 k13 z0 z1 z2 z3 f0 f1 f2 f3;obtain⟨k00,k01,k02,k03⟩:=TA.out;obtain⟨k10,k11,k12,k13⟩:=TB.out;obtain⟨⟨z0,z1,z2,z3⟩,f0,f1,f2,f3⟩:=FR.out;clear q0;have q0:=TN.out.at 0 (.int .i64 x.kd) rfl;have hzo:=hz;(replace hz:w.heap.size+3 < w1.heap.size:=Nat.lt_of_lt_of_le hz hb.size);(replace HB:=hid (HB.out.trans (hb.mono HB.out.size)));clear hb hzo)
  | (go_at_call 50;(with_reducible refine (HC.out _ HB.out).mono ?_);rintro e1 w1 ⟨v,rfl,ho,hb⟩;(replace TN:=hid (TN.out.below (by omega) hb));(replace TA:=hid (TA.out.below (by omega) hb));(replace TB:=hid (TB.out.below (by omega) hb));(replace FR:=hid (FR.out.below hz hb));clear k00 k01 k02 k03 k10 k11 k12 k13 z0 z1 z2 z3 f0 f1 f2 f3;obtain⟨k00,k01,k02,k03⟩:=TA.out;obtain⟨k10,k11,k12,k13⟩:=TB.out;obtain⟨⟨z0,z1,z2,z3⟩,f0,f1,f2,f3⟩:=FR.out;have hzo:=hz;(replace hz:w.heap.size+3 < w1.heap.size:=Nat.lt_of_lt_of_le hz hb.size);have HO:=hid (Kit.zah ho (show w.heap.size+3+1≤_ from hzo));have HZO:=hid (lt_succ_self (w.heap.size+3));obtain⟨A2,c2,rfl, -, -, -⟩:=Kit.zam ho;(replace HB:=hid (HB.out.trans (hb.mono HB.out.size)));clear ho hb))
 refine bodyPost_ret (Kit.zaa rfl _ _ (w.heap.size+3) 0 [.int .i64 r.X,.int .i64 r.Y,.int .i64 r.U,.slice A2 r.m c2] _ rfl (zbg (by go_cell) (by go_cell) (by go_cell) (by go_cell)) Tryz.underlying27 rfl (by kernel_rfl)) rfl ?_
 refine⟨_,rfl,Kit.zah (za3 HO.out HZO.out) (by omega),?_⟩
 exact (((HB.out.setCell (p:=⟨w.heap.size+3,0,none⟩) (Nat.le_add_right _ _) _).setCell (p:=⟨w.heap.size+3,1,none⟩) (Nat.le_add_right _ _) _).setCell (p:=⟨w.heap.size+3,2,none⟩) (Nat.le_add_right _ _) _).setCell (p:=⟨w.heap.size+3,3,none⟩) (Nat.le_add_right _ _) _
end CRun
end
end Go.Proofs.YtahekhpeomcfjaaGreatDoor
