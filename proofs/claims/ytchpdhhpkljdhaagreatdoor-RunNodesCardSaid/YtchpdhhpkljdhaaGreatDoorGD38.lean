/- -/
import Derived.Test.YtchpdhhpkljdhaaGreatDoorGD9
open Go.Value renaming int→Jj
open Go.IntKind renaming i64→Jq
open Go.Lib (hid)
open Nat (le_refl lt_of_succ_lt lt_succ_self)
set_option linter.unusedVariables false
set_option linter.unusedSimpArgs false
set_option maxRecDepth 100000
set_option maxHeartbeats 16000000
namespace Go.Proofs.YtchpdhhpkljdhaaGreatDoor
namespace CConv
end CConv
namespace CKind
end CKind
namespace CSat
end CSat
open Go Go.ChangeShapes Go.WideShapes Go.ChangeAt Go.RowKit Go.Deep
section
namespace CRun
open Plain CSat CShape CTensor CConv CKind
theorem cnode_err (x:Nd) (H W C:Int) (A:Option Addr) (n c:Nat) (H2 W2 C2:Int) (B:Option Addr) (m d:Nat) (z:Int) (h0:z≠0) (w:World) (hK:∀ w1:World,Below w.heap.size w w1→Calls Tryz.prog 12 #[.agg x.val] w1 fun e w'=>e=.returned (Jj Jq z)∧Below w1.heap.size w1 w'):Calls Tryz.prog 6 #[.agg x.val,.agg #[Jj Jq H,Jj Jq W,Jj Jq C,.slice A n c],.agg #[Jj Jq H2,Jj Jq W2,Jj Jq C2,.slice B m d]] w (MTen w (Res.bad z)):=by
 have HCK:=hid hK
 have d1:(z != 0)=true:=by simpa using h0
 have d2:(z == 0)=false:=by simpa using h0
 clear hK
 have HE:=hid (ent2 x H W C H2 W2 C2 A B n c m d 32 w)
 go_enter Tryz.func6,Tryz.ntmps6
 go_upto_region 1 with fail
 obtain⟨W0,hW0,TN,HB,hz,TA,TB,FR⟩:=HE.out
 rw [← hW0]
 clear hW0 HE
 refine Z7o ?_;intro k00 k01 k02 k03 k10 k11 k12 k13 z0 z1 z2 z3 f0 f1 f2 f3
 go_wp2_with (first
  | (refine za4 rfl _ rfl w.heap.size x rfl TN.out ?_)
  | (go_at_call 12;(with_reducible refine (HCK.out _ HB.out).mono ?_);rintro e1 w1 ⟨rfl,hb⟩;(replace TN:=hid (TN.out.below Zb3 hb));(replace TA:=hid (TA.out.below Zb3 hb));(replace TB:=hid (TB.out.below Zb3 hb));(replace FR:=hid (FR.out.below hz hb));clear k00 k01 k02 k03 k10 k11 k12 k13 z0 z1 z2 z3 f0 f1 f2 f3;obtain⟨k00,k01,k02,k03⟩:=TA.out;obtain⟨k10,k11,k12,k13⟩:=TB.out;obtain⟨⟨z0,z1,z2,z3⟩,f0,f1,f2,f3⟩:=FR.out;have hzo:=hz;(replace hz:w.heap.size+3 < w1.heap.size:=Nat.lt_of_lt_of_le hz hb.size);(replace HB:=hid (HB.out.trans (hb.mono HB.out.size)));clear hb hzo))
 exact Z3j
theorem cnode_bad (x:Nd) (H W C:Int) (A:Option Addr) (n c:Nat) (H2 W2 C2:Int) (B:Option Addr) (m d:Nat) (ht:tensB H W C n=false) (w:World) (hK:∀ w1:World,Below w.heap.size w w1→Calls Tryz.prog 12 #[.agg x.val] w1 fun e w'=>e=.returned (Jj Jq 0)∧Below w1.heap.size w1 w'):Calls Tryz.prog 6 #[.agg x.val,.agg #[Jj Jq H,Jj Jq W,Jj Jq C,.slice A n c],.agg #[Jj Jq H2,Jj Jq W2,Jj Jq C2,.slice B m d]] w (MTen w (Res.bad 5)):=by
 have HCK:=hid hK
 have HTR:=hid (fun w=>CTensor.zak H W C A n c false ht w)
 clear hK ht
 have HE:=hid (ent2 x H W C H2 W2 C2 A B n c m d 32 w)
 go_enter Tryz.func6,Tryz.ntmps6
 go_upto_region 1 with fail
 obtain⟨W0,hW0,TN,HB,hz,TA,TB,FR⟩:=HE.out
 rw [← hW0]
 clear hW0 HE
 refine Z7o ?_;intro k00 k01 k02 k03 k10 k11 k12 k13 z0 z1 z2 z3 f0 f1 f2 f3
 go_wp2_with (first
  | (refine za4 rfl _ rfl w.heap.size x rfl TN.out ?_)
  | (go_at_call 12;(with_reducible refine (HCK.out _ HB.out).mono ?_);rintro e1 w1 ⟨rfl,hb⟩;(replace TN:=hid (TN.out.below Zb3 hb));(replace TA:=hid (TA.out.below Zb3 hb));(replace TB:=hid (TB.out.below Zb3 hb));(replace FR:=hid (FR.out.below hz hb));clear k00 k01 k02 k03 k10 k11 k12 k13 z0 z1 z2 z3 f0 f1 f2 f3;obtain⟨k00,k01,k02,k03⟩:=TA.out;obtain⟨k10,k11,k12,k13⟩:=TB.out;obtain⟨⟨z0,z1,z2,z3⟩,f0,f1,f2,f3⟩:=FR.out;have hzo:=hz;(replace hz:w.heap.size+3 < w1.heap.size:=Nat.lt_of_lt_of_le hz hb.size);(replace HB:=hid (HB.out.trans (hb.mono HB.out.size)));clear hb hzo)
  | (go_at_call 13;(with_reducible refine (HTR.out _).mono ?_);rintro e1 w1 ⟨rfl,hb⟩;(replace TN:=hid (TN.out.below Zb3 hb));(replace TA:=hid (TA.out.below Zb3 hb));(replace TB:=hid (TB.out.below Zb3 hb));(replace FR:=hid (FR.out.below hz hb));clear k00 k01 k02 k03 k10 k11 k12 k13 z0 z1 z2 z3 f0 f1 f2 f3;obtain⟨k00,k01,k02,k03⟩:=TA.out;obtain⟨k10,k11,k12,k13⟩:=TB.out;obtain⟨⟨z0,z1,z2,z3⟩,f0,f1,f2,f3⟩:=FR.out;have hzo:=hz;(replace hz:w.heap.size+3 < w1.heap.size:=Nat.lt_of_lt_of_le hz hb.size);(replace HB:=hid (HB.out.trans (hb.mono HB.out.size)));clear hb hzo))
 exact Z3j
theorem cnode_4 (x:Nd) (hk:x.kd=4) (H W C:Int) (A:Option Addr) (n c:Nat) (H2 W2 C2:Int) (B:Option Addr) (m d:Nat) (ht:tensB H W C n=true) (r:Res) (w:World) (hK:∀ w1:World,Below w.heap.size w w1→Calls Tryz.prog 12 #[.agg x.val] w1 fun e w'=>e=.returned (Jj Jq 0)∧Below w1.heap.size w1 w') (hC:∀ w1:World,Below w.heap.size w w1→Calls Tryz.prog 14 #[.agg #[Jj Jq H,Jj Jq W,Jj Jq C,.slice A n c],.agg x.val] w1 (MTen w1 r)):Calls Tryz.prog 6 #[.agg x.val,.agg #[Jj Jq H,Jj Jq W,Jj Jq C,.slice A n c],.agg #[Jj Jq H2,Jj Jq W2,Jj Jq C2,.slice B m d]] w (MTen w r):=by
 refine Z7l ?_;clear hK ht hC hk;intro HCK HTR HC HK HE
 go_enter Tryz.func6,Tryz.ntmps6
 go_upto_region 1 with fail
 obtain⟨W0,hW0,TN,HB,hz,TA,TB,FR⟩:=HE.out
 rw [← hW0]
 clear hW0 HE
 refine Z7o ?_;intro k00 k01 k02 k03 k10 k11 k12 k13 z0 z1 z2 z3 f0 f1 f2 f3
 have q0:=nd_k0 TN.out HK.out
 go_wp2_with (first
  | (refine za4 rfl _ rfl w.heap.size x rfl TN.out ?_)
  | (go_at_call 12;(with_reducible refine (HCK.out _ HB.out).mono ?_);rintro e1 w1 ⟨rfl,hb⟩;(replace TN:=hid (TN.out.below Zb3 hb));(replace TA:=hid (TA.out.below Zb3 hb));(replace TB:=hid (TB.out.below Zb3 hb));(replace FR:=hid (FR.out.below hz hb));clear k00 k01 k02 k03 k10 k11 k12 k13 z0 z1 z2 z3 f0 f1 f2 f3;obtain⟨k00,k01,k02,k03⟩:=TA.out;obtain⟨k10,k11,k12,k13⟩:=TB.out;obtain⟨⟨z0,z1,z2,z3⟩,f0,f1,f2,f3⟩:=FR.out;clear q0;have q0:=nd_k0 TN.out HK.out;have hzo:=hz;(replace hz:w.heap.size+3 < w1.heap.size:=Nat.lt_of_lt_of_le hz hb.size);(replace HB:=hid (HB.out.trans (hb.mono HB.out.size)));clear hb hzo)
  | (go_at_call 13;(with_reducible refine (HTR.out _).mono ?_);rintro e1 w1 ⟨rfl,hb⟩;(replace TN:=hid (TN.out.below Zb3 hb));(replace TA:=hid (TA.out.below Zb3 hb));(replace TB:=hid (TB.out.below Zb3 hb));(replace FR:=hid (FR.out.below hz hb));clear k00 k01 k02 k03 k10 k11 k12 k13 z0 z1 z2 z3 f0 f1 f2 f3;obtain⟨k00,k01,k02,k03⟩:=TA.out;obtain⟨k10,k11,k12,k13⟩:=TB.out;obtain⟨⟨z0,z1,z2,z3⟩,f0,f1,f2,f3⟩:=FR.out;clear q0;have q0:=nd_k0 TN.out HK.out;have hzo:=hz;(replace hz:w.heap.size+3 < w1.heap.size:=Nat.lt_of_lt_of_le hz hb.size);(replace HB:=hid (HB.out.trans (hb.mono HB.out.size)));clear hb hzo)
  | (go_at_call 14;(with_reducible refine (HC.out _ HB.out).mono ?_);rintro e1 w1 ⟨v,rfl,ho,hb⟩;(replace TN:=hid (TN.out.below Zb3 hb));(replace TA:=hid (TA.out.below Zb3 hb));(replace TB:=hid (TB.out.below Zb3 hb));(replace FR:=hid (FR.out.below hz hb));clear k00 k01 k02 k03 k10 k11 k12 k13 z0 z1 z2 z3 f0 f1 f2 f3;obtain⟨k00,k01,k02,k03⟩:=TA.out;obtain⟨k10,k11,k12,k13⟩:=TB.out;obtain⟨⟨z0,z1,z2,z3⟩,f0,f1,f2,f3⟩:=FR.out;have hzo:=hz;(replace hz:w.heap.size+3 < w1.heap.size:=Nat.lt_of_lt_of_le hz hb.size);have HO:=hid (Kit.zah ho (show w.heap.size+3+1≤_ from hzo));have HZO:=hid (lt_succ_self (w.heap.size+3));obtain⟨A2,c2,rfl, -, -, -⟩:=Kit.zaj ho;(replace HB:=hid (HB.out.trans (hb.mono HB.out.size)));clear ho hb))
 exact Z5
theorem cnode_5 (x:Nd) (hk:x.kd=5) (H W C:Int) (A:Option Addr) (n c:Nat) (H2 W2 C2:Int) (B:Option Addr) (m d:Nat) (ht:tensB H W C n=true) (r:Res) (w:World) (hK:∀ w1:World,Below w.heap.size w w1→Calls Tryz.prog 12 #[.agg x.val] w1 fun e w'=>e=.returned (Jj Jq 0)∧Below w1.heap.size w1 w') (hC:∀ w1:World,Below w.heap.size w w1→Calls Tryz.prog 15 #[.agg #[Jj Jq H,Jj Jq W,Jj Jq C,.slice A n c],.agg x.val] w1 (MTen w1 r)):Calls Tryz.prog 6 #[.agg x.val,.agg #[Jj Jq H,Jj Jq W,Jj Jq C,.slice A n c],.agg #[Jj Jq H2,Jj Jq W2,Jj Jq C2,.slice B m d]] w (MTen w r):=by
 refine Z7l ?_;clear hK ht hC hk;intro HCK HTR HC HK HE
 go_enter Tryz.func6,Tryz.ntmps6
 go_upto_region 1 with fail
 obtain⟨W0,hW0,TN,HB,hz,TA,TB,FR⟩:=HE.out
 rw [← hW0]
 clear hW0 HE
 refine Z7o ?_;intro k00 k01 k02 k03 k10 k11 k12 k13 z0 z1 z2 z3 f0 f1 f2 f3
 have q0:=nd_k0 TN.out HK.out
 go_wp2_with (first
  | (refine za4 rfl _ rfl w.heap.size x rfl TN.out ?_)
  | (go_at_call 12;(with_reducible refine (HCK.out _ HB.out).mono ?_);rintro e1 w1 ⟨rfl,hb⟩;(replace TN:=hid (TN.out.below Zb3 hb));(replace TA:=hid (TA.out.below Zb3 hb));(replace TB:=hid (TB.out.below Zb3 hb));(replace FR:=hid (FR.out.below hz hb));clear k00 k01 k02 k03 k10 k11 k12 k13 z0 z1 z2 z3 f0 f1 f2 f3;obtain⟨k00,k01,k02,k03⟩:=TA.out;obtain⟨k10,k11,k12,k13⟩:=TB.out;obtain⟨⟨z0,z1,z2,z3⟩,f0,f1,f2,f3⟩:=FR.out;clear q0;have q0:=nd_k0 TN.out HK.out;have hzo:=hz;(replace hz:w.heap.size+3 < w1.heap.size:=Nat.lt_of_lt_of_le hz hb.size);(replace HB:=hid (HB.out.trans (hb.mono HB.out.size)));clear hb hzo)
  | (go_at_call 13;(with_reducible refine (HTR.out _).mono ?_);rintro e1 w1 ⟨rfl,hb⟩;(replace TN:=hid (TN.out.below Zb3 hb));(replace TA:=hid (TA.out.below Zb3 hb));(replace TB:=hid (TB.out.below Zb3 hb));(replace FR:=hid (FR.out.below hz hb));clear k00 k01 k02 k03 k10 k11 k12 k13 z0 z1 z2 z3 f0 f1 f2 f3;obtain⟨k00,k01,k02,k03⟩:=TA.out;obtain⟨k10,k11,k12,k13⟩:=TB.out;obtain⟨⟨z0,z1,z2,z3⟩,f0,f1,f2,f3⟩:=FR.out;clear q0;have q0:=nd_k0 TN.out HK.out;have hzo:=hz;(replace hz:w.heap.size+3 < w1.heap.size:=Nat.lt_of_lt_of_le hz hb.size);(replace HB:=hid (HB.out.trans (hb.mono HB.out.size)));clear hb hzo)
  | (go_at_call 15;(with_reducible refine (HC.out _ HB.out).mono ?_);rintro e1 w1 ⟨v,rfl,ho,hb⟩;(replace TN:=hid (TN.out.below Zb3 hb));(replace TA:=hid (TA.out.below Zb3 hb));(replace TB:=hid (TB.out.below Zb3 hb));(replace FR:=hid (FR.out.below hz hb));clear k00 k01 k02 k03 k10 k11 k12 k13 z0 z1 z2 z3 f0 f1 f2 f3;obtain⟨k00,k01,k02,k03⟩:=TA.out;obtain⟨k10,k11,k12,k13⟩:=TB.out;obtain⟨⟨z0,z1,z2,z3⟩,f0,f1,f2,f3⟩:=FR.out;have hzo:=hz;(replace hz:w.heap.size+3 < w1.heap.size:=Nat.lt_of_lt_of_le hz hb.size);have HO:=hid (Kit.zah ho (show w.heap.size+3+1≤_ from hzo));have HZO:=hid (lt_succ_self (w.heap.size+3));obtain⟨A2,c2,rfl, -, -, -⟩:=Kit.zaj ho;(replace HB:=hid (HB.out.trans (hb.mono HB.out.size)));clear ho hb))
 exact Z5
theorem cnode_6 (x:Nd) (hk:x.kd=6) (H W C:Int) (A:Option Addr) (n c:Nat) (H2 W2 C2:Int) (B:Option Addr) (m d:Nat) (ht:tensB H W C n=true) (r:Res) (w:World) (hK:∀ w1:World,Below w.heap.size w w1→Calls Tryz.prog 12 #[.agg x.val] w1 fun e w'=>e=.returned (Jj Jq 0)∧Below w1.heap.size w1 w') (hC:∀ w1:World,Below w.heap.size w w1→Calls Tryz.prog 16 #[.agg #[Jj Jq H,Jj Jq W,Jj Jq C,.slice A n c],.agg #[Jj Jq H2,Jj Jq W2,Jj Jq C2,.slice B m d],.agg x.val] w1 (MTen w1 r)):Calls Tryz.prog 6 #[.agg x.val,.agg #[Jj Jq H,Jj Jq W,Jj Jq C,.slice A n c],.agg #[Jj Jq H2,Jj Jq W2,Jj Jq C2,.slice B m d]] w (MTen w r):=by
 refine Z7l ?_;clear hK ht hC hk;intro HCK HTR HC HK HE
 go_enter Tryz.func6,Tryz.ntmps6
 go_upto_region 1 with fail
 obtain⟨W0,hW0,TN,HB,hz,TA,TB,FR⟩:=HE.out
 rw [← hW0]
 clear hW0 HE
 refine Z7o ?_;intro k00 k01 k02 k03 k10 k11 k12 k13 z0 z1 z2 z3 f0 f1 f2 f3
 have q0:=nd_k0 TN.out HK.out
 go_wp2_with (first
  | (refine za4 rfl _ rfl w.heap.size x rfl TN.out ?_)
  | (go_at_call 12;(with_reducible refine (HCK.out _ HB.out).mono ?_);rintro e1 w1 ⟨rfl,hb⟩;(replace TN:=hid (TN.out.below Zb3 hb));(replace TA:=hid (TA.out.below Zb3 hb));(replace TB:=hid (TB.out.below Zb3 hb));(replace FR:=hid (FR.out.below hz hb));clear k00 k01 k02 k03 k10 k11 k12 k13 z0 z1 z2 z3 f0 f1 f2 f3;obtain⟨k00,k01,k02,k03⟩:=TA.out;obtain⟨k10,k11,k12,k13⟩:=TB.out;obtain⟨⟨z0,z1,z2,z3⟩,f0,f1,f2,f3⟩:=FR.out;clear q0;have q0:=nd_k0 TN.out HK.out;have hzo:=hz;(replace hz:w.heap.size+3 < w1.heap.size:=Nat.lt_of_lt_of_le hz hb.size);(replace HB:=hid (HB.out.trans (hb.mono HB.out.size)));clear hb hzo)
  | (go_at_call 13;(with_reducible refine (HTR.out _).mono ?_);rintro e1 w1 ⟨rfl,hb⟩;(replace TN:=hid (TN.out.below Zb3 hb));(replace TA:=hid (TA.out.below Zb3 hb));(replace TB:=hid (TB.out.below Zb3 hb));(replace FR:=hid (FR.out.below hz hb));clear k00 k01 k02 k03 k10 k11 k12 k13 z0 z1 z2 z3 f0 f1 f2 f3;obtain⟨k00,k01,k02,k03⟩:=TA.out;obtain⟨k10,k11,k12,k13⟩:=TB.out;obtain⟨⟨z0,z1,z2,z3⟩,f0,f1,f2,f3⟩:=FR.out;clear q0;have q0:=nd_k0 TN.out HK.out;have hzo:=hz;(replace hz:w.heap.size+3 < w1.heap.size:=Nat.lt_of_lt_of_le hz hb.size);(replace HB:=hid (HB.out.trans (hb.mono HB.out.size)));clear hb hzo)
  | (go_at_call 16;(with_reducible refine (HC.out _ HB.out).mono ?_);rintro e1 w1 ⟨v,rfl,ho,hb⟩;(replace TN:=hid (TN.out.below Zb3 hb));(replace TA:=hid (TA.out.below Zb3 hb));(replace TB:=hid (TB.out.below Zb3 hb));(replace FR:=hid (FR.out.below hz hb));clear k00 k01 k02 k03 k10 k11 k12 k13 z0 z1 z2 z3 f0 f1 f2 f3;obtain⟨k00,k01,k02,k03⟩:=TA.out;obtain⟨k10,k11,k12,k13⟩:=TB.out;obtain⟨⟨z0,z1,z2,z3⟩,f0,f1,f2,f3⟩:=FR.out;have hzo:=hz;(replace hz:w.heap.size+3 < w1.heap.size:=Nat.lt_of_lt_of_le hz hb.size);have HO:=hid (Kit.zah ho (show w.heap.size+3+1≤_ from hzo));have HZO:=hid (lt_succ_self (w.heap.size+3));obtain⟨A2,c2,rfl, -, -, -⟩:=Kit.zaj ho;(replace HB:=hid (HB.out.trans (hb.mono HB.out.size)));clear ho hb))
 exact Z5
theorem cnode_7 (x:Nd) (hk:x.kd=7) (H W C:Int) (A:Option Addr) (n c:Nat) (H2 W2 C2:Int) (B:Option Addr) (m d:Nat) (ht:tensB H W C n=true) (r:Res) (w:World) (hK:∀ w1:World,Below w.heap.size w w1→Calls Tryz.prog 12 #[.agg x.val] w1 fun e w'=>e=.returned (Jj Jq 0)∧Below w1.heap.size w1 w') (hC:∀ w1:World,Below w.heap.size w w1→Calls Tryz.prog 17 #[.agg #[Jj Jq H,Jj Jq W,Jj Jq C,.slice A n c],.agg x.val] w1 (MTen w1 r)):Calls Tryz.prog 6 #[.agg x.val,.agg #[Jj Jq H,Jj Jq W,Jj Jq C,.slice A n c],.agg #[Jj Jq H2,Jj Jq W2,Jj Jq C2,.slice B m d]] w (MTen w r):=by
 refine Z7l ?_;clear hK ht hC hk;intro HCK HTR HC HK HE
 go_enter Tryz.func6,Tryz.ntmps6
 go_upto_region 1 with fail
 obtain⟨W0,hW0,TN,HB,hz,TA,TB,FR⟩:=HE.out
 rw [← hW0]
 clear hW0 HE
 refine Z7o ?_;intro k00 k01 k02 k03 k10 k11 k12 k13 z0 z1 z2 z3 f0 f1 f2 f3
 have q0:=nd_k0 TN.out HK.out
 go_wp2_with (first
  | (refine za4 rfl _ rfl w.heap.size x rfl TN.out ?_)
  | (go_at_call 12;(with_reducible refine (HCK.out _ HB.out).mono ?_);rintro e1 w1 ⟨rfl,hb⟩;(replace TN:=hid (TN.out.below Zb3 hb));(replace TA:=hid (TA.out.below Zb3 hb));(replace TB:=hid (TB.out.below Zb3 hb));(replace FR:=hid (FR.out.below hz hb));clear k00 k01 k02 k03 k10 k11 k12 k13 z0 z1 z2 z3 f0 f1 f2 f3;obtain⟨k00,k01,k02,k03⟩:=TA.out;obtain⟨k10,k11,k12,k13⟩:=TB.out;obtain⟨⟨z0,z1,z2,z3⟩,f0,f1,f2,f3⟩:=FR.out;clear q0;have q0:=nd_k0 TN.out HK.out;have hzo:=hz;(replace hz:w.heap.size+3 < w1.heap.size:=Nat.lt_of_lt_of_le hz hb.size);(replace HB:=hid (HB.out.trans (hb.mono HB.out.size)));clear hb hzo)
  | (go_at_call 13;(with_reducible refine (HTR.out _).mono ?_);rintro e1 w1 ⟨rfl,hb⟩;(replace TN:=hid (TN.out.below Zb3 hb));(replace TA:=hid (TA.out.below Zb3 hb));(replace TB:=hid (TB.out.below Zb3 hb));(replace FR:=hid (FR.out.below hz hb));clear k00 k01 k02 k03 k10 k11 k12 k13 z0 z1 z2 z3 f0 f1 f2 f3;obtain⟨k00,k01,k02,k03⟩:=TA.out;obtain⟨k10,k11,k12,k13⟩:=TB.out;obtain⟨⟨z0,z1,z2,z3⟩,f0,f1,f2,f3⟩:=FR.out;clear q0;have q0:=nd_k0 TN.out HK.out;have hzo:=hz;(replace hz:w.heap.size+3 < w1.heap.size:=Nat.lt_of_lt_of_le hz hb.size);(replace HB:=hid (HB.out.trans (hb.mono HB.out.size)));clear hb hzo)
  | (go_at_call 17;(with_reducible refine (HC.out _ HB.out).mono ?_);rintro e1 w1 ⟨v,rfl,ho,hb⟩;(replace TN:=hid (TN.out.below Zb3 hb));(replace TA:=hid (TA.out.below Zb3 hb));(replace TB:=hid (TB.out.below Zb3 hb));(replace FR:=hid (FR.out.below hz hb));clear k00 k01 k02 k03 k10 k11 k12 k13 z0 z1 z2 z3 f0 f1 f2 f3;obtain⟨k00,k01,k02,k03⟩:=TA.out;obtain⟨k10,k11,k12,k13⟩:=TB.out;obtain⟨⟨z0,z1,z2,z3⟩,f0,f1,f2,f3⟩:=FR.out;have hzo:=hz;(replace hz:w.heap.size+3 < w1.heap.size:=Nat.lt_of_lt_of_le hz hb.size);have HO:=hid (Kit.zah ho (show w.heap.size+3+1≤_ from hzo));have HZO:=hid (lt_succ_self (w.heap.size+3));obtain⟨A2,c2,rfl, -, -, -⟩:=Kit.zaj ho;(replace HB:=hid (HB.out.trans (hb.mono HB.out.size)));clear ho hb))
 exact Z5
theorem cnode_8 (x:Nd) (hk:x.kd=8) (H W C:Int) (A:Option Addr) (n c:Nat) (H2 W2 C2:Int) (B:Option Addr) (m d:Nat) (ht:tensB H W C n=true) (r:Res) (w:World) (hK:∀ w1:World,Below w.heap.size w w1→Calls Tryz.prog 12 #[.agg x.val] w1 fun e w'=>e=.returned (Jj Jq 0)∧Below w1.heap.size w1 w') (hC:∀ w1:World,Below w.heap.size w w1→Calls Tryz.prog 18 #[.agg #[Jj Jq H,Jj Jq W,Jj Jq C,.slice A n c],Jj Jq x.P,.int .i8 x.Z] w1 (MTen w1 r)):Calls Tryz.prog 6 #[.agg x.val,.agg #[Jj Jq H,Jj Jq W,Jj Jq C,.slice A n c],.agg #[Jj Jq H2,Jj Jq W2,Jj Jq C2,.slice B m d]] w (MTen w r):=by
 refine Z7l ?_;clear hK ht hC hk;intro HCK HTR HC HK HE
 go_enter Tryz.func6,Tryz.ntmps6
 go_upto_region 1 with fail
 obtain⟨W0,hW0,TN,HB,hz,TA,TB,FR⟩:=HE.out
 rw [← hW0]
 clear hW0 HE
 refine Z7o ?_;intro k00 k01 k02 k03 k10 k11 k12 k13 z0 z1 z2 z3 f0 f1 f2 f3
 have q0:=nd_k0 TN.out HK.out
 have q5:=TN.out.at 5 (Jj Jq x.P) rfl
 have q7:=TN.out.at 7 (.int .i8 x.Z) rfl
 go_wp2_with (first
  | (refine za4 rfl _ rfl w.heap.size x rfl TN.out ?_)
  | (go_at_call 12;(with_reducible refine (HCK.out _ HB.out).mono ?_);rintro e1 w1 ⟨rfl,hb⟩;(replace TN:=hid (TN.out.below Zb3 hb));(replace TA:=hid (TA.out.below Zb3 hb));(replace TB:=hid (TB.out.below Zb3 hb));(replace FR:=hid (FR.out.below hz hb));clear k00 k01 k02 k03 k10 k11 k12 k13 z0 z1 z2 z3 f0 f1 f2 f3;obtain⟨k00,k01,k02,k03⟩:=TA.out;obtain⟨k10,k11,k12,k13⟩:=TB.out;obtain⟨⟨z0,z1,z2,z3⟩,f0,f1,f2,f3⟩:=FR.out;clear q0;have q0:=nd_k0 TN.out HK.out;clear q5 q7;have q5:=TN.out.at 5 (Jj Jq x.P) rfl;have q7:=TN.out.at 7 (.int .i8 x.Z) rfl;have hzo:=hz;(replace hz:w.heap.size+3 < w1.heap.size:=Nat.lt_of_lt_of_le hz hb.size);(replace HB:=hid (HB.out.trans (hb.mono HB.out.size)));clear hb hzo)
  | (go_at_call 13;(with_reducible refine (HTR.out _).mono ?_);rintro e1 w1 ⟨rfl,hb⟩;(replace TN:=hid (TN.out.below Zb3 hb));(replace TA:=hid (TA.out.below Zb3 hb));(replace TB:=hid (TB.out.below Zb3 hb));(replace FR:=hid (FR.out.below hz hb));clear k00 k01 k02 k03 k10 k11 k12 k13 z0 z1 z2 z3 f0 f1 f2 f3;obtain⟨k00,k01,k02,k03⟩:=TA.out;obtain⟨k10,k11,k12,k13⟩:=TB.out;obtain⟨⟨z0,z1,z2,z3⟩,f0,f1,f2,f3⟩:=FR.out;clear q0;have q0:=nd_k0 TN.out HK.out;clear q5 q7;have q5:=TN.out.at 5 (Jj Jq x.P) rfl;have q7:=TN.out.at 7 (.int .i8 x.Z) rfl;have hzo:=hz;(replace hz:w.heap.size+3 < w1.heap.size:=Nat.lt_of_lt_of_le hz hb.size);(replace HB:=hid (HB.out.trans (hb.mono HB.out.size)));clear hb hzo)
  | (go_at_call 18;(with_reducible refine (HC.out _ HB.out).mono ?_);rintro e1 w1 ⟨v,rfl,ho,hb⟩;(replace TN:=hid (TN.out.below Zb3 hb));(replace TA:=hid (TA.out.below Zb3 hb));(replace TB:=hid (TB.out.below Zb3 hb));(replace FR:=hid (FR.out.below hz hb));clear k00 k01 k02 k03 k10 k11 k12 k13 z0 z1 z2 z3 f0 f1 f2 f3;obtain⟨k00,k01,k02,k03⟩:=TA.out;obtain⟨k10,k11,k12,k13⟩:=TB.out;obtain⟨⟨z0,z1,z2,z3⟩,f0,f1,f2,f3⟩:=FR.out;have hzo:=hz;(replace hz:w.heap.size+3 < w1.heap.size:=Nat.lt_of_lt_of_le hz hb.size);have HO:=hid (Kit.zah ho (show w.heap.size+3+1≤_ from hzo));have HZO:=hid (lt_succ_self (w.heap.size+3));obtain⟨A2,c2,rfl, -, -, -⟩:=Kit.zaj ho;(replace HB:=hid (HB.out.trans (hb.mono HB.out.size)));clear ho hb))
 exact Z5
theorem cnode_9 (x:Nd) (hk:x.kd=9) (H W C:Int) (A:Option Addr) (n c:Nat) (H2 W2 C2:Int) (B:Option Addr) (m d:Nat) (ht:tensB H W C n=true) (r:Res) (w:World) (hK:∀ w1:World,Below w.heap.size w w1→Calls Tryz.prog 12 #[.agg x.val] w1 fun e w'=>e=.returned (Jj Jq 0)∧Below w1.heap.size w1 w') (hC:∀ w1:World,Below w.heap.size w w1→Calls Tryz.prog 19 #[.agg #[Jj Jq H,Jj Jq W,Jj Jq C,.slice A n c]] w1 (MTen w1 r)):Calls Tryz.prog 6 #[.agg x.val,.agg #[Jj Jq H,Jj Jq W,Jj Jq C,.slice A n c],.agg #[Jj Jq H2,Jj Jq W2,Jj Jq C2,.slice B m d]] w (MTen w r):=by
 refine Z7l ?_;clear hK ht hC hk;intro HCK HTR HC HK HE
 go_enter Tryz.func6,Tryz.ntmps6
 go_upto_region 1 with fail
 obtain⟨W0,hW0,TN,HB,hz,TA,TB,FR⟩:=HE.out
 rw [← hW0]
 clear hW0 HE
 refine Z7o ?_;intro k00 k01 k02 k03 k10 k11 k12 k13 z0 z1 z2 z3 f0 f1 f2 f3
 have q0:=nd_k0 TN.out HK.out
 go_wp2_with (first
  | (refine za4 rfl _ rfl w.heap.size x rfl TN.out ?_)
  | (go_at_call 12;(with_reducible refine (HCK.out _ HB.out).mono ?_);rintro e1 w1 ⟨rfl,hb⟩;(replace TN:=hid (TN.out.below Zb3 hb));(replace TA:=hid (TA.out.below Zb3 hb));(replace TB:=hid (TB.out.below Zb3 hb));(replace FR:=hid (FR.out.below hz hb));clear k00 k01 k02 k03 k10 k11 k12 k13 z0 z1 z2 z3 f0 f1 f2 f3;obtain⟨k00,k01,k02,k03⟩:=TA.out;obtain⟨k10,k11,k12,k13⟩:=TB.out;obtain⟨⟨z0,z1,z2,z3⟩,f0,f1,f2,f3⟩:=FR.out;clear q0;have q0:=nd_k0 TN.out HK.out;have hzo:=hz;(replace hz:w.heap.size+3 < w1.heap.size:=Nat.lt_of_lt_of_le hz hb.size);(replace HB:=hid (HB.out.trans (hb.mono HB.out.size)));clear hb hzo)
  | (go_at_call 13;(with_reducible refine (HTR.out _).mono ?_);rintro e1 w1 ⟨rfl,hb⟩;(replace TN:=hid (TN.out.below Zb3 hb));(replace TA:=hid (TA.out.below Zb3 hb));(replace TB:=hid (TB.out.below Zb3 hb));(replace FR:=hid (FR.out.below hz hb));clear k00 k01 k02 k03 k10 k11 k12 k13 z0 z1 z2 z3 f0 f1 f2 f3;obtain⟨k00,k01,k02,k03⟩:=TA.out;obtain⟨k10,k11,k12,k13⟩:=TB.out;obtain⟨⟨z0,z1,z2,z3⟩,f0,f1,f2,f3⟩:=FR.out;clear q0;have q0:=nd_k0 TN.out HK.out;have hzo:=hz;(replace hz:w.heap.size+3 < w1.heap.size:=Nat.lt_of_lt_of_le hz hb.size);(replace HB:=hid (HB.out.trans (hb.mono HB.out.size)));clear hb hzo)
  | (go_at_call 19;(with_reducible refine (HC.out _ HB.out).mono ?_);rintro e1 w1 ⟨v,rfl,ho,hb⟩;(replace TN:=hid (TN.out.below Zb3 hb));(replace TA:=hid (TA.out.below Zb3 hb));(replace TB:=hid (TB.out.below Zb3 hb));(replace FR:=hid (FR.out.below hz hb));clear k00 k01 k02 k03 k10 k11 k12 k13 z0 z1 z2 z3 f0 f1 f2 f3;obtain⟨k00,k01,k02,k03⟩:=TA.out;obtain⟨k10,k11,k12,k13⟩:=TB.out;obtain⟨⟨z0,z1,z2,z3⟩,f0,f1,f2,f3⟩:=FR.out;have hzo:=hz;(replace hz:w.heap.size+3 < w1.heap.size:=Nat.lt_of_lt_of_le hz hb.size);have HO:=hid (Kit.zah ho (show w.heap.size+3+1≤_ from hzo));have HZO:=hid (lt_succ_self (w.heap.size+3));obtain⟨A2,c2,rfl, -, -, -⟩:=Kit.zaj ho;(replace HB:=hid (HB.out.trans (hb.mono HB.out.size)));clear ho hb))
 exact Z5
theorem cnode_sum (x:Nd) (hk:x.kd=1∨x.kd=2∨x.kd=3) (H W C:Int) (A:Option Addr) (n c:Nat) (H2 W2 C2:Int) (B:Option Addr) (m d:Nat) (ht:tensB H W C n=true) (r:Res) (w:World) (hK:∀ w1:World,Below w.heap.size w w1→Calls Tryz.prog 12 #[.agg x.val] w1 fun e w'=>e=.returned (Jj Jq 0)∧Below w1.heap.size w1 w') (hC:∀ w1:World,Below w.heap.size w w1→Calls Tryz.prog 20 #[.agg x.val,.agg #[Jj Jq H,Jj Jq W,Jj Jq C,.slice A n c]] w1 (MTen w1 r)):Calls Tryz.prog 6 #[.agg x.val,.agg #[Jj Jq H,Jj Jq W,Jj Jq C,.slice A n c],.agg #[Jj Jq H2,Jj Jq W2,Jj Jq C2,.slice B m d]] w (MTen w r):=by
 refine Z7l ?_;clear hK ht hC hk;intro HCK HTR HC HK HE
 go_enter Tryz.func6,Tryz.ntmps6
 go_upto_region 1 with fail
 obtain⟨W0,hW0,TN,HB,hz,TA,TB,FR⟩:=HE.out
 rw [← hW0]
 clear hW0 HE
 refine Z7o ?_;intro k00 k01 k02 k03 k10 k11 k12 k13 z0 z1 z2 z3 f0 f1 f2 f3
 refine Z7n ?_;intro q0 e4 g4 e5 g5 e6 g6 e7 g7 e8 g8 e9 g9
 go_wp2_with (first
  | (refine za4 rfl _ rfl w.heap.size x rfl TN.out ?_)
  | (go_at_call 12;(with_reducible refine (HCK.out _ HB.out).mono ?_);rintro e1 w1 ⟨rfl,hb⟩;(replace TN:=hid (TN.out.below Zb3 hb));(replace TA:=hid (TA.out.below Zb3 hb));(replace TB:=hid (TB.out.below Zb3 hb));(replace FR:=hid (FR.out.below hz hb));clear k00 k01 k02 k03 k10 k11 k12 k13 z0 z1 z2 z3 f0 f1 f2 f3;obtain⟨k00,k01,k02,k03⟩:=TA.out;obtain⟨k10,k11,k12,k13⟩:=TB.out;obtain⟨⟨z0,z1,z2,z3⟩,f0,f1,f2,f3⟩:=FR.out;clear q0;have q0:=TN.out.at 0 (Jj Jq x.kd) rfl;have hzo:=hz;(replace hz:w.heap.size+3 < w1.heap.size:=Nat.lt_of_lt_of_le hz hb.size);(replace HB:=hid (HB.out.trans (hb.mono HB.out.size)));clear hb hzo)
  | (go_at_call 13;(with_reducible refine (HTR.out _).mono ?_);rintro e1 w1 ⟨rfl,hb⟩;(replace TN:=hid (TN.out.below Zb3 hb));(replace TA:=hid (TA.out.below Zb3 hb));(replace TB:=hid (TB.out.below Zb3 hb));(replace FR:=hid (FR.out.below hz hb));clear k00 k01 k02 k03 k10 k11 k12 k13 z0 z1 z2 z3 f0 f1 f2 f3;obtain⟨k00,k01,k02,k03⟩:=TA.out;obtain⟨k10,k11,k12,k13⟩:=TB.out;obtain⟨⟨z0,z1,z2,z3⟩,f0,f1,f2,f3⟩:=FR.out;clear q0;have q0:=TN.out.at 0 (Jj Jq x.kd) rfl;have hzo:=hz;(replace hz:w.heap.size+3 < w1.heap.size:=Nat.lt_of_lt_of_le hz hb.size);(replace HB:=hid (HB.out.trans (hb.mono HB.out.size)));clear hb hzo)
  | (go_at_call 20;(with_reducible refine (HC.out _ HB.out).mono ?_);rintro e1 w1 ⟨v,rfl,ho,hb⟩;(replace TN:=hid (TN.out.below Zb3 hb));(replace TA:=hid (TA.out.below Zb3 hb));(replace TB:=hid (TB.out.below Zb3 hb));(replace FR:=hid (FR.out.below hz hb));clear k00 k01 k02 k03 k10 k11 k12 k13 z0 z1 z2 z3 f0 f1 f2 f3;obtain⟨k00,k01,k02,k03⟩:=TA.out;obtain⟨k10,k11,k12,k13⟩:=TB.out;obtain⟨⟨z0,z1,z2,z3⟩,f0,f1,f2,f3⟩:=FR.out;have hzo:=hz;(replace hz:w.heap.size+3 < w1.heap.size:=Nat.lt_of_lt_of_le hz hb.size);have HO:=hid (Kit.zah ho (show w.heap.size+3+1≤_ from hzo));have HZO:=hid (lt_succ_self (w.heap.size+3));obtain⟨A2,c2,rfl, -, -, -⟩:=Kit.zaj ho;(replace HB:=hid (HB.out.trans (hb.mono HB.out.size)));clear ho hb))
 exact Z5
end CRun
end
end Go.Proofs.YtchpdhhpkljdhaaGreatDoor
