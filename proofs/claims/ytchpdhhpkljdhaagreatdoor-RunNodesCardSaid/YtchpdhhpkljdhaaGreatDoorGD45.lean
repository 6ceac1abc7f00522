/- -/
import Derived.Test.YtchpdhhpkljdhaaGreatDoorGD9
open Go.Value renaming int→Jj
open Go.IntKind renaming i64→Jq
open Go.Lib (hid)
open Nat (le_refl lt_of_succ_lt lt_succ_self)
set_option linter.unusedVariables false
set_option linter.unusedSimpArgs false
set_option maxRecDepth 100000
set_option maxHeartbeats 16000000
namespace Go.Proofs.YtchpdhhpkljdhaaGreatDoor
namespace CConv
end CConv
namespace CKind
end CKind
namespace CSat
end CSat
open Go Go.ChangeShapes Go.WideShapes Go.ChangeAt Go.RowKit Go.Deep
section
namespace CRun
open Plain CSat CShape CTensor CConv CKind
theorem set4_allocR {g:Nat} {w w':World} (h:Below w.heap.size w w') (hg:w.heap.size≤g) (a b c d:Value) (o:Obj) :
  Below w.heap.size w (((((w'.setCell ⟨g,0,none⟩ a).setCell ⟨g,1,none⟩ b).setCell ⟨g,2,none⟩ c).setCell ⟨g,3,none⟩ d).alloc o):=by
 exact Z26
def MRd (w:World) (r:Res) (e:Ending) (w':World):Prop :=
 ∃ A c,e=.returned (.tuple #[.agg #[Jj Jq r.X,Jj Jq r.Y,Jj Jq r.U,.slice A r.m c],Jj Jq r.er])∧Kit.Rd w' w'.heap.size A (I8s r.xs)∧Below w.heap.size w w'
theorem MTen.rd {w:World} {r:Res} {e:Ending} {w':World} (h:MTen w r e w'):MRd w r e w':=by
 obtain⟨v,rfl,ho,hb⟩:=h
 obtain⟨A,c,rfl, -, -,hr⟩:=Kit.zaj ho
 exact⟨A,c,rfl,hr,hb⟩
theorem rnode_err (x:Nd) (H W C:Int) (A:Option Addr) (n c:Nat) (H2 W2 C2:Int) (B:Option Addr) (m d:Nat) (z:Int) (h0:z≠0) (w:World) (hK:∀ w1:World,Below w.heap.size w w1→Calls Tryz.prog 21 #[.agg x.val] w1 fun e w'=>e=.returned (Jj Jq z)∧Below w1.heap.size w1 w'):Calls Tryz.prog 7 #[.agg x.val,.agg #[Jj Jq H,Jj Jq W,Jj Jq C,.slice A n c],.agg #[Jj Jq H2,Jj Jq W2,Jj Jq C2,.slice B m d]] w (MTen w (Res.bad z)):=by
 have HCK:=hid hK
 have d1:(z != 0)=true:=by simpa using h0
 have d2:(z == 0)=false:=by simpa using h0
 clear hK
 have HE:=hid (ent2 x H W C H2 W2 C2 A B n c m d 32 w)
 go_enter Tryz.func7,Tryz.ntmps7
 go_upto_region 1 with fail
 obtain⟨W0,hW0,TN,HB,hz,TA,TB,FR⟩:=HE.out
 rw [← hW0]
 clear hW0 HE
 refine Z7o ?_;intro k00 k01 k02 k03 k10 k11 k12 k13 z0 z1 z2 z3 f0 f1 f2 f3
 go_wp2_with (first
  | (refine za4 rfl _ rfl w.heap.size x rfl TN.out ?_)
  | (go_at_call 21;(with_reducible refine (HCK.out _ HB.out).mono ?_);rintro e1 w1 ⟨rfl,hb⟩;(replace TN:=hid (TN.out.below Zb3 hb));(replace TA:=hid (TA.out.below Zb3 hb));(replace TB:=hid (TB.out.below Zb3 hb));(replace FR:=hid (FR.out.below hz hb));clear k00 k01 k02 k03 k10 k11 k12 k13 z0 z1 z2 z3 f0 f1 f2 f3;obtain⟨k00,k01,k02,k03⟩:=TA.out;obtain⟨k10,k11,k12,k13⟩:=TB.out;obtain⟨⟨z0,z1,z2,z3⟩,f0,f1,f2,f3⟩:=FR.out;have hzo:=hz;(replace hz:w.heap.size+3 < w1.heap.size:=Nat.lt_of_lt_of_le hz hb.size);(replace HB:=hid (HB.out.trans (hb.mono HB.out.size)));clear hb hzo))
 exact Z3j
theorem rnode_bad (x:Nd) (H W C:Int) (A:Option Addr) (n c:Nat) (H2 W2 C2:Int) (B:Option Addr) (m d:Nat) (ht:tensB H W C n=false) (w:World) (hK:∀ w1:World,Below w.heap.size w w1→Calls Tryz.prog 21 #[.agg x.val] w1 fun e w'=>e=.returned (Jj Jq 0)∧Below w1.heap.size w1 w'):Calls Tryz.prog 7 #[.agg x.val,.agg #[Jj Jq H,Jj Jq W,Jj Jq C,.slice A n c],.agg #[Jj Jq H2,Jj Jq W2,Jj Jq C2,.slice B m d]] w (MTen w (Res.bad 5)):=by
 have HCK:=hid hK
 have HTR:=hid (fun w=>zal H W C A n c false ht w)
 clear hK ht
 have HE:=hid (ent2 x H W C H2 W2 C2 A B n c m d 32 w)
 go_enter Tryz.func7,Tryz.ntmps7
 go_upto_region 1 with fail
 obtain⟨W0,hW0,TN,HB,hz,TA,TB,FR⟩:=HE.out
 rw [← hW0]
 clear hW0 HE
 refine Z7o ?_;intro k00 k01 k02 k03 k10 k11 k12 k13 z0 z1 z2 z3 f0 f1 f2 f3
 go_wp2_with (first
  | (refine za4 rfl _ rfl w.heap.size x rfl TN.out ?_)
  | (go_at_call 21;(with_reducible refine (HCK.out _ HB.out).mono ?_);rintro e1 w1 ⟨rfl,hb⟩;(replace TN:=hid (TN.out.below Zb3 hb));(replace TA:=hid (TA.out.below Zb3 hb));(replace TB:=hid (TB.out.below Zb3 hb));(replace FR:=hid (FR.out.below hz hb));clear k00 k01 k02 k03 k10 k11 k12 k13 z0 z1 z2 z3 f0 f1 f2 f3;obtain⟨k00,k01,k02,k03⟩:=TA.out;obtain⟨k10,k11,k12,k13⟩:=TB.out;obtain⟨⟨z0,z1,z2,z3⟩,f0,f1,f2,f3⟩:=FR.out;have hzo:=hz;(replace hz:w.heap.size+3 < w1.heap.size:=Nat.lt_of_lt_of_le hz hb.size);(replace HB:=hid (HB.out.trans (hb.mono HB.out.size)));clear hb hzo)
  | (go_at_call 22;(with_reducible refine (HTR.out _).mono ?_);rintro e1 w1 ⟨rfl,hb⟩;(replace TN:=hid (TN.out.below Zb3 hb));(replace TA:=hid (TA.out.below Zb3 hb));(replace TB:=hid (TB.out.below Zb3 hb));(replace FR:=hid (FR.out.below hz hb));clear k00 k01 k02 k03 k10 k11 k12 k13 z0 z1 z2 z3 f0 f1 f2 f3;obtain⟨k00,k01,k02,k03⟩:=TA.out;obtain⟨k10,k11,k12,k13⟩:=TB.out;obtain⟨⟨z0,z1,z2,z3⟩,f0,f1,f2,f3⟩:=FR.out;have hzo:=hz;(replace hz:w.heap.size+3 < w1.heap.size:=Nat.lt_of_lt_of_le hz hb.size);(replace HB:=hid (HB.out.trans (hb.mono HB.out.size)));clear hb hzo))
 exact Z3j
theorem rnode_4 (x:Nd) (hk:x.kd=4) (H W C:Int) (A:Option Addr) (n c:Nat) (H2 W2 C2:Int) (B:Option Addr) (m d:Nat) (ht:tensB H W C n=true) (r:Res) (w:World) (hK:∀ w1:World,Below w.heap.size w w1→Calls Tryz.prog 21 #[.agg x.val] w1 fun e w'=>e=.returned (Jj Jq 0)∧Below w1.heap.size w1 w') (hC:∀ w1:World,Below w.heap.size w w1→Calls Tryz.prog 23 #[.agg #[Jj Jq H,Jj Jq W,Jj Jq C,.slice A n c],.agg x.val,.bool true] w1 (MTen w1 r)):Calls Tryz.prog 7 #[.agg x.val,.agg #[Jj Jq H,Jj Jq W,Jj Jq C,.slice A n c],.agg #[Jj Jq H2,Jj Jq W2,Jj Jq C2,.slice B m d]] w (MTen w r):=by
 exact Z35
theorem rnode_5 (x:Nd) (hk:x.kd=5) (H W C:Int) (A:Option Addr) (n c:Nat) (H2 W2 C2:Int) (B:Option Addr) (m d:Nat) (ht:tensB H W C n=true) (r:Res) (w:World) (hK:∀ w1:World,Below w.heap.size w w1→Calls Tryz.prog 21 #[.agg x.val] w1 fun e w'=>e=.returned (Jj Jq 0)∧Below w1.heap.size w1 w') (hC:∀ w1:World,Below w.heap.size w w1→Calls Tryz.prog 23 #[.agg #[Jj Jq H,Jj Jq W,Jj Jq C,.slice A n c],.agg x.val,.bool false] w1 (MTen w1 r)):Calls Tryz.prog 7 #[.agg x.val,.agg #[Jj Jq H,Jj Jq W,Jj Jq C,.slice A n c],.agg #[Jj Jq H2,Jj Jq W2,Jj Jq C2,.slice B m d]] w (MTen w r):=by
 exact Z35
theorem rnode_6 (x:Nd) (hk:x.kd=6) (H W C:Int) (A:Option Addr) (n c:Nat) (H2 W2 C2:Int) (B:Option Addr) (m d:Nat) (ht:tensB H W C n=true) (r:Res) (w:World) (hK:∀ w1:World,Below w.heap.size w w1→Calls Tryz.prog 21 #[.agg x.val] w1 fun e w'=>e=.returned (Jj Jq 0)∧Below w1.heap.size w1 w') (hC:∀ w1:World,Below w.heap.size w w1→Calls Tryz.prog 24 #[.agg #[Jj Jq H,Jj Jq W,Jj Jq C,.slice A n c],.agg #[Jj Jq H2,Jj Jq W2,Jj Jq C2,.slice B m d],.agg x.val] w1 (MTen w1 r)):Calls Tryz.prog 7 #[.agg x.val,.agg #[Jj Jq H,Jj Jq W,Jj Jq C,.slice A n c],.agg #[Jj Jq H2,Jj Jq W2,Jj Jq C2,.slice B m d]] w (MTen w r):=by
 have HC:=hid hC
 clear hC
 refine Z7m ?_;clear hK ht hk;intro HCK HTR HK HE
 go_enter Tryz.func7,Tryz.ntmps7
 go_upto_region 1 with fail
 obtain⟨W0,hW0,TN,HB,hz,TA,TB,FR⟩:=HE.out
 rw [← hW0]
 clear hW0 HE
 refine Z7o ?_;intro k00 k01 k02 k03 k10 k11 k12 k13 z0 z1 z2 z3 f0 f1 f2 f3
 have q0:=nd_k0 TN.out HK.out
 go_wp2_with (first
  | (refine za4 rfl _ rfl w.heap.size x rfl TN.out ?_)
  | (go_at_call 21;(with_reducible refine (HCK.out _ HB.out).mono ?_);rintro e1 w1 ⟨rfl,hb⟩;(replace TN:=hid (TN.out.below Zb3 hb));(replace TA:=hid (TA.out.below Zb3 hb));(replace TB:=hid (TB.out.below Zb3 hb));(replace FR:=hid (FR.out.below hz hb));clear k00 k01 k02 k03 k10 k11 k12 k13 z0 z1 z2 z3 f0 f1 f2 f3;obtain⟨k00,k01,k02,k03⟩:=TA.out;obtain⟨k10,k11,k12,k13⟩:=TB.out;obtain⟨⟨z0,z1,z2,z3⟩,f0,f1,f2,f3⟩:=FR.out;clear q0;have q0:=nd_k0 TN.out HK.out;have hzo:=hz;(replace hz:w.heap.size+3 < w1.heap.size:=Nat.lt_of_lt_of_le hz hb.size);(replace HB:=hid (HB.out.trans (hb.mono HB.out.size)));clear hb hzo)
  | (go_at_call 22;(with_reducible refine (HTR.out _).mono ?_);rintro e1 w1 ⟨rfl,hb⟩;(replace TN:=hid (TN.out.below Zb3 hb));(replace TA:=hid (TA.out.below Zb3 hb));(replace TB:=hid (TB.out.below Zb3 hb));(replace FR:=hid (FR.out.below hz hb));clear k00 k01 k02 k03 k10 k11 k12 k13 z0 z1 z2 z3 f0 f1 f2 f3;obtain⟨k00,k01,k02,k03⟩:=TA.out;obtain⟨k10,k11,k12,k13⟩:=TB.out;obtain⟨⟨z0,z1,z2,z3⟩,f0,f1,f2,f3⟩:=FR.out;clear q0;have q0:=nd_k0 TN.out HK.out;have hzo:=hz;(replace hz:w.heap.size+3 < w1.heap.size:=Nat.lt_of_lt_of_le hz hb.size);(replace HB:=hid (HB.out.trans (hb.mono HB.out.size)));clear hb hzo)
  | (go_at_call 24;(with_reducible refine (HC.out _ HB.out).mono ?_);rintro e1 w1 ⟨v,rfl,ho,hb⟩;(replace TN:=hid (TN.out.below Zb3 hb));(replace TA:=hid (TA.out.below Zb3 hb));(replace TB:=hid (TB.out.below Zb3 hb));(replace FR:=hid (FR.out.below hz hb));clear k00 k01 k02 k03 k10 k11 k12 k13 z0 z1 z2 z3 f0 f1 f2 f3;obtain⟨k00,k01,k02,k03⟩:=TA.out;obtain⟨k10,k11,k12,k13⟩:=TB.out;obtain⟨⟨z0,z1,z2,z3⟩,f0,f1,f2,f3⟩:=FR.out;have hzo:=hz;(replace hz:w.heap.size+3 < w1.heap.size:=Nat.lt_of_lt_of_le hz hb.size);have HO:=hid (Kit.zah ho (show w.heap.size+3+1≤_ from hzo));have HZO:=hid (lt_succ_self (w.heap.size+3));obtain⟨A2,c2,rfl, -, -, -⟩:=Kit.zaj ho;(replace HB:=hid (HB.out.trans (hb.mono HB.out.size)));clear ho hb))
 exact Z5
theorem rnode_7 (x:Nd) (hk:x.kd=7) (H W C:Int) (A:Option Addr) (n c:Nat) (H2 W2 C2:Int) (B:Option Addr) (m d:Nat) (ht:tensB H W C n=true) (r:Res) (w:World) (hK:∀ w1:World,Below w.heap.size w w1→Calls Tryz.prog 21 #[.agg x.val] w1 fun e w'=>e=.returned (Jj Jq 0)∧Below w1.heap.size w1 w') (hC:∀ w1:World,Below w.heap.size w w1→Calls Tryz.prog 25 #[.agg #[Jj Jq H,Jj Jq W,Jj Jq C,.slice A n c],.agg x.val] w1 (MTen w1 r)):Calls Tryz.prog 7 #[.agg x.val,.agg #[Jj Jq H,Jj Jq W,Jj Jq C,.slice A n c],.agg #[Jj Jq H2,Jj Jq W2,Jj Jq C2,.slice B m d]] w (MTen w r):=by
 have HC:=hid hC
 clear hC
 refine Z7m ?_;clear hK ht hk;intro HCK HTR HK HE
 go_enter Tryz.func7,Tryz.ntmps7
 go_upto_region 1 with fail
 obtain⟨W0,hW0,TN,HB,hz,TA,TB,FR⟩:=HE.out
 rw [← hW0]
 clear hW0 HE
 refine Z7o ?_;intro k00 k01 k02 k03 k10 k11 k12 k13 z0 z1 z2 z3 f0 f1 f2 f3
 have q0:=nd_k0 TN.out HK.out
 go_wp2_with (first
  | (refine za4 rfl _ rfl w.heap.size x rfl TN.out ?_)
  | (go_at_call 21;(with_reducible refine (HCK.out _ HB.out).mono ?_);rintro e1 w1 ⟨rfl,hb⟩;(replace TN:=hid (TN.out.below Zb3 hb));(replace TA:=hid (TA.out.below Zb3 hb));(replace TB:=hid (TB.out.below Zb3 hb));(replace FR:=hid (FR.out.below hz hb));clear k00 k01 k02 k03 k10 k11 k12 k13 z0 z1 z2 z3 f0 f1 f2 f3;obtain⟨k00,k01,k02,k03⟩:=TA.out;obtain⟨k10,k11,k12,k13⟩:=TB.out;obtain⟨⟨z0,z1,z2,z3⟩,f0,f1,f2,f3⟩:=FR.out;clear q0;have q0:=nd_k0 TN.out HK.out;have hzo:=hz;(replace hz:w.heap.size+3 < w1.heap.size:=Nat.lt_of_lt_of_le hz hb.size);(replace HB:=hid (HB.out.trans (hb.mono HB.out.size)));clear hb hzo)
  | (go_at_call 22;(with_reducible refine (HTR.out _).mono ?_);rintro e1 w1 ⟨rfl,hb⟩;(replace TN:=hid (TN.out.below Zb3 hb));(replace TA:=hid (TA.out.below Zb3 hb));(replace TB:=hid (TB.out.below Zb3 hb));(replace FR:=hid (FR.out.below hz hb));clear k00 k01 k02 k03 k10 k11 k12 k13 z0 z1 z2 z3 f0 f1 f2 f3;obtain⟨k00,k01,k02,k03⟩:=TA.out;obtain⟨k10,k11,k12,k13⟩:=TB.out;obtain⟨⟨z0,z1,z2,z3⟩,f0,f1,f2,f3⟩:=FR.out;clear q0;have q0:=nd_k0 TN.out HK.out;have hzo:=hz;(replace hz:w.heap.size+3 < w1.heap.size:=Nat.lt_of_lt_of_le hz hb.size);(replace HB:=hid (HB.out.trans (hb.mono HB.out.size)));clear hb hzo)
  | (go_at_call 25;(with_reducible refine (HC.out _ HB.out).mono ?_);rintro e1 w1 ⟨v,rfl,ho,hb⟩;(replace TN:=hid (TN.out.below Zb3 hb));(replace TA:=hid (TA.out.below Zb3 hb));(replace TB:=hid (TB.out.below Zb3 hb));(replace FR:=hid (FR.out.below hz hb));clear k00 k01 k02 k03 k10 k11 k12 k13 z0 z1 z2 z3 f0 f1 f2 f3;obtain⟨k00,k01,k02,k03⟩:=TA.out;obtain⟨k10,k11,k12,k13⟩:=TB.out;obtain⟨⟨z0,z1,z2,z3⟩,f0,f1,f2,f3⟩:=FR.out;have hzo:=hz;(replace hz:w.heap.size+3 < w1.heap.size:=Nat.lt_of_lt_of_le hz hb.size);have HO:=hid (Kit.zah ho (show w.heap.size+3+1≤_ from hzo));have HZO:=hid (lt_succ_self (w.heap.size+3));obtain⟨A2,c2,rfl, -, -, -⟩:=Kit.zaj ho;(replace HB:=hid (HB.out.trans (hb.mono HB.out.size)));clear ho hb))
 exact Z5
theorem rnode_8e (x:Nd) (hk:x.kd=8) (H W C:Int) (A:Option Addr) (n c:Nat) (H2 W2 C2:Int) (B:Option Addr) (m d:Nat) (ht:tensB H W C n=true) (y:Int) (h0:y≠0) (w:World) (hK:∀ w1:World,Below w.heap.size w w1→Calls Tryz.prog 21 #[.agg x.val] w1 fun e w'=>e=.returned (Jj Jq 0)∧Below w1.heap.size w1 w') (hY:∀ w1:World,Calls Tryz.prog 26 #[.agg #[Jj Jq H,Jj Jq W,Jj Jq C,.slice A n c],Jj Jq x.P] w1 fun e w'=>e=.returned (Jj Jq y)∧Below w1.heap.size w1 w'):Calls Tryz.prog 7 #[.agg x.val,.agg #[Jj Jq H,Jj Jq W,Jj Jq C,.slice A n c],.agg #[Jj Jq H2,Jj Jq W2,Jj Jq C2,.slice B m d]] w (MTen w (Res.bad y)):=by
 have HY:=hid hY
 have d1:(y != 0)=true:=by simpa using h0
 have d2:(y == 0)=false:=by simpa using h0
 clear hY
 refine Z7m ?_;clear hK ht hk;intro HCK HTR HK HE
 go_enter Tryz.func7,Tryz.ntmps7
 go_upto_region 1 with fail
 obtain⟨W0,hW0,TN,HB,hz,TA,TB,FR⟩:=HE.out
 rw [← hW0]
 clear hW0 HE
 refine Z7o ?_;intro k00 k01 k02 k03 k10 k11 k12 k13 z0 z1 z2 z3 f0 f1 f2 f3
 have q0:=nd_k0 TN.out HK.out
 have q5:=TN.out.at 5 (Jj Jq x.P) rfl
 have q7:=TN.out.at 7 (.int .i8 x.Z) rfl
 go_wp2_with (first
  | (refine za4 rfl _ rfl w.heap.size x rfl TN.out ?_)
  | (go_at_call 21;(with_reducible refine (HCK.out _ HB.out).mono ?_);rintro e1 w1 ⟨rfl,hb⟩;(replace TN:=hid (TN.out.below Zb3 hb));(replace TA:=hid (TA.out.below Zb3 hb));(replace TB:=hid (TB.out.below Zb3 hb));(replace FR:=hid (FR.out.below hz hb));clear k00 k01 k02 k03 k10 k11 k12 k13 z0 z1 z2 z3 f0 f1 f2 f3;obtain⟨k00,k01,k02,k03⟩:=TA.out;obtain⟨k10,k11,k12,k13⟩:=TB.out;obtain⟨⟨z0,z1,z2,z3⟩,f0,f1,f2,f3⟩:=FR.out;clear q0;have q0:=nd_k0 TN.out HK.out;clear q5 q7;have q5:=TN.out.at 5 (Jj Jq x.P) rfl;have q7:=TN.out.at 7 (.int .i8 x.Z) rfl;have hzo:=hz;(replace hz:w.heap.size+3 < w1.heap.size:=Nat.lt_of_lt_of_le hz hb.size);(replace HB:=hid (HB.out.trans (hb.mono HB.out.size)));clear hb hzo)
  | (go_at_call 22;(with_reducible refine (HTR.out _).mono ?_);rintro e1 w1 ⟨rfl,hb⟩;(replace TN:=hid (TN.out.below Zb3 hb));(replace TA:=hid (TA.out.below Zb3 hb));(replace TB:=hid (TB.out.below Zb3 hb));(replace FR:=hid (FR.out.below hz hb));clear k00 k01 k02 k03 k10 k11 k12 k13 z0 z1 z2 z3 f0 f1 f2 f3;obtain⟨k00,k01,k02,k03⟩:=TA.out;obtain⟨k10,k11,k12,k13⟩:=TB.out;obtain⟨⟨z0,z1,z2,z3⟩,f0,f1,f2,f3⟩:=FR.out;clear q0;have q0:=nd_k0 TN.out HK.out;clear q5 q7;have q5:=TN.out.at 5 (Jj Jq x.P) rfl;have q7:=TN.out.at 7 (.int .i8 x.Z) rfl;have hzo:=hz;(replace hz:w.heap.size+3 < w1.heap.size:=Nat.lt_of_lt_of_le hz hb.size);(replace HB:=hid (HB.out.trans (hb.mono HB.out.size)));clear hb hzo)
  | (go_at_call 26;(with_reducible refine (HY.out _).mono ?_);rintro e1 w1 ⟨rfl,hb⟩;(replace TN:=hid (TN.out.below Zb3 hb));(replace TA:=hid (TA.out.below Zb3 hb));(replace TB:=hid (TB.out.below Zb3 hb));(replace FR:=hid (FR.out.below hz hb));clear k00 k01 k02 k03 k10 k11 k12 k13 z0 z1 z2 z3 f0 f1 f2 f3;obtain⟨k00,k01,k02,k03⟩:=TA.out;obtain⟨k10,k11,k12,k13⟩:=TB.out;obtain⟨⟨z0,z1,z2,z3⟩,f0,f1,f2,f3⟩:=FR.out;clear q0;have q0:=nd_k0 TN.out HK.out;clear q5 q7;have q5:=TN.out.at 5 (Jj Jq x.P) rfl;have q7:=TN.out.at 7 (.int .i8 x.Z) rfl;have hzo:=hz;(replace hz:w.heap.size+3 < w1.heap.size:=Nat.lt_of_lt_of_le hz hb.size);(replace HB:=hid (HB.out.trans (hb.mono HB.out.size)));clear hb hzo))
 exact Z3j
theorem rnode_8 (x:Nd) (hk:x.kd=8) (H W C:Int) (A:Option Addr) (n c:Nat) (H2 W2 C2:Int) (B:Option Addr) (m d:Nat) (ht:tensB H W C n=true) (r:Res) (w:World) (hK:∀ w1:World,Below w.heap.size w w1→Calls Tryz.prog 21 #[.agg x.val] w1 fun e w'=>e=.returned (Jj Jq 0)∧Below w1.heap.size w1 w') (hY:∀ w1:World,Calls Tryz.prog 26 #[.agg #[Jj Jq H,Jj Jq W,Jj Jq C,.slice A n c],Jj Jq x.P] w1 fun e w'=>e=.returned (Jj Jq 0)∧Below w1.heap.size w1 w') (hC:∀ w1:World,Below w.heap.size w w1→Calls Tryz.prog 27 #[.agg #[Jj Jq H,Jj Jq W,Jj Jq C,.slice A n c],Jj Jq x.P,.int .i8 x.Z] w1 (MTen w1 r)):Calls Tryz.prog 7 #[.agg x.val,.agg #[Jj Jq H,Jj Jq W,Jj Jq C,.slice A n c],.agg #[Jj Jq H2,Jj Jq W2,Jj Jq C2,.slice B m d]] w (MTen w r):=by
 have HY:=hid hY
 have HC:=hid hC
 clear hY hC
 refine Z7m ?_;clear hK ht hk;intro HCK HTR HK HE
 go_enter Tryz.func7,Tryz.ntmps7
 go_upto_region 1 with fail
 obtain⟨W0,hW0,TN,HB,hz,TA,TB,FR⟩:=HE.out
 rw [← hW0]
 clear hW0 HE
 refine Z7o ?_;intro k00 k01 k02 k03 k10 k11 k12 k13 z0 z1 z2 z3 f0 f1 f2 f3
 have q0:=nd_k0 TN.out HK.out
 have q5:=TN.out.at 5 (Jj Jq x.P) rfl
 have q7:=TN.out.at 7 (.int .i8 x.Z) rfl
 go_wp2_with (first
  | (refine za4 rfl _ rfl w.heap.size x rfl TN.out ?_)
  | (go_at_call 21;(with_reducible refine (HCK.out _ HB.out).mono ?_);rintro e1 w1 ⟨rfl,hb⟩;(replace TN:=hid (TN.out.below Zb3 hb));(replace TA:=hid (TA.out.below Zb3 hb));(replace TB:=hid (TB.out.below Zb3 hb));(replace FR:=hid (FR.out.below hz hb));clear k00 k01 k02 k03 k10 k11 k12 k13 z0 z1 z2 z3 f0 f1 f2 f3;obtain⟨k00,k01,k02,k03⟩:=TA.out;obtain⟨k10,k11,k12,k13⟩:=TB.out;obtain⟨⟨z0,z1,z2,z3⟩,f0,f1,f2,f3⟩:=FR.out;clear q0;have q0:=nd_k0 TN.out HK.out;clear q5 q7;have q5:=TN.out.at 5 (Jj Jq x.P) rfl;have q7:=TN.out.at 7 (.int .i8 x.Z) rfl;have hzo:=hz;(replace hz:w.heap.size+3 < w1.heap.size:=Nat.lt_of_lt_of_le hz hb.size);(replace HB:=hid (HB.out.trans (hb.mono HB.out.size)));clear hb hzo)
  | (go_at_call 22;(with_reducible refine (HTR.out _).mono ?_);rintro e1 w1 ⟨rfl,hb⟩;(replace TN:=hid (TN.out.below Zb3 hb));(replace TA:=hid (TA.out.below Zb3 hb));(replace TB:=hid (TB.out.below Zb3 hb));(replace FR:=hid (FR.out.below hz hb));clear k00 k01 k02 k03 k10 k11 k12 k13 z0 z1 z2 z3 f0 f1 f2 f3;obtain⟨k00,k01,k02,k03⟩:=TA.out;obtain⟨k10,k11,k12,k13⟩:=TB.out;obtain⟨⟨z0,z1,z2,z3⟩,f0,f1,f2,f3⟩:=FR.out;clear q0;have q0:=nd_k0 TN.out HK.out;clear q5 q7;have q5:=TN.out.at 5 (Jj Jq x.P) rfl;have q7:=TN.out.at 7 (.int .i8 x.Z) rfl;have hzo:=hz;(replace hz:w.heap.size+3 < w1.heap.size:=Nat.lt_of_lt_of_le hz hb.size);(replace HB:=hid (HB.out.trans (hb.mono HB.out.size)));clear hb hzo)
  | (go_at_call 26;(with_reducible refine (HY.out _).mono ?_);rintro e1 w1 ⟨rfl,hb⟩;(replace TN:=hid (TN.out.below Zb3 hb));(replace TA:=hid (TA.out.below Zb3 hb));(replace TB:=hid (TB.out.below Zb3 hb));(replace FR:=hid (FR.out.below hz hb));clear k00 k01 k02 k03 k10 k11 k12 k13 z0 z1 z2 z3 f0 f1 f2 f3;obtain⟨k00,k01,k02,k03⟩:=TA.out;obtain⟨k10,k11,k12,k13⟩:=TB.out;obtain⟨⟨z0,z1,z2,z3⟩,f0,f1,f2,f3⟩:=FR.out;clear q0;have q0:=nd_k0 TN.out HK.out;clear q5 q7;have q5:=TN.out.at 5 (Jj Jq x.P) rfl;have q7:=TN.out.at 7 (.int .i8 x.Z) rfl;have hzo:=hz;(replace hz:w.heap.size+3 < w1.heap.size:=Nat.lt_of_lt_of_le hz hb.size);(replace HB:=hid (HB.out.trans (hb.mono HB.out.size)));clear hb hzo)
  | (go_at_call 27;(with_reducible refine (HC.out _ HB.out).mono ?_);rintro e1 w1 ⟨v,rfl,ho,hb⟩;(replace TN:=hid (TN.out.below Zb3 hb));(replace TA:=hid (TA.out.below Zb3 hb));(replace TB:=hid (TB.out.below Zb3 hb));(replace FR:=hid (FR.out.below hz hb));clear k00 k01 k02 k03 k10 k11 k12 k13 z0 z1 z2 z3 f0 f1 f2 f3;obtain⟨k00,k01,k02,k03⟩:=TA.out;obtain⟨k10,k11,k12,k13⟩:=TB.out;obtain⟨⟨z0,z1,z2,z3⟩,f0,f1,f2,f3⟩:=FR.out;have hzo:=hz;(replace hz:w.heap.size+3 < w1.heap.size:=Nat.lt_of_lt_of_le hz hb.size);have HO:=hid (Kit.zah ho (show w.heap.size+3+1≤_ from hzo));have HZO:=hid (lt_succ_self (w.heap.size+3));obtain⟨A2,c2,rfl, -, -, -⟩:=Kit.zaj ho;(replace HB:=hid (HB.out.trans (hb.mono HB.out.size)));clear ho hb))
 exact Z5
theorem rnode_9 (x:Nd) (hk:x.kd=9) (H W C:Int) (A:Option Addr) (n c:Nat) (H2 W2 C2:Int) (B:Option Addr) (m d:Nat) (ht:tensB H W C n=true) (zs:List Int) (hn6:n≤1000000) (w:World) (hr:Kit.Rd w w.heap.size A (I8s zs)) (hK:∀ w1:World,Below w.heap.size w w1→Calls Tryz.prog 21 #[.agg x.val] w1 fun e w'=>e=.returned (Jj Jq 0)∧Below w1.heap.size w1 w'):Calls Tryz.prog 7 #[.agg x.val,.agg #[Jj Jq H,Jj Jq W,Jj Jq C,.slice A n c],.agg #[Jj Jq H2,Jj Jq W2,Jj Jq C2,.slice B m d]] w (MRd w ⟨1,1,n,n,zs,0⟩):=by
 have HRZ:=hid hr
 clear hr
 refine Z7m ?_;clear hK ht hk;intro HCK HTR HK HE
 go_enter Tryz.func7,Tryz.ntmps7
 go_upto_region 1 with fail
 obtain⟨W0,hW0,TN,HB,hz,TA,TB,FR⟩:=HE.out
 rw [← hW0]
 clear hW0 HE
 refine Z7o ?_;intro k00 k01 k02 k03 k10 k11 k12 k13 z0 z1 z2 z3 f0 f1 f2 f3
 have q0:=nd_k0 TN.out HK.out
 go_wp2_with (first
  | (refine za4 rfl _ rfl w.heap.size x rfl TN.out ?_)
  | (go_at_call 21;(with_reducible refine (HCK.out _ HB.out).mono ?_);rintro e1 w1 ⟨rfl,hb⟩;(replace TN:=hid (TN.out.below Zb3 hb));(replace TA:=hid (TA.out.below Zb3 hb));(replace TB:=hid (TB.out.below Zb3 hb));(replace FR:=hid (FR.out.below hz hb));clear k00 k01 k02 k03 k10 k11 k12 k13 z0 z1 z2 z3 f0 f1 f2 f3;obtain⟨k00,k01,k02,k03⟩:=TA.out;obtain⟨k10,k11,k12,k13⟩:=TB.out;obtain⟨⟨z0,z1,z2,z3⟩,f0,f1,f2,f3⟩:=FR.out;clear q0;have q0:=nd_k0 TN.out HK.out;have hzo:=hz;(replace hz:w.heap.size+3 < w1.heap.size:=Nat.lt_of_lt_of_le hz hb.size);(replace HB:=hid (HB.out.trans (hb.mono HB.out.size)));clear hb hzo)
  | (go_at_call 22;(with_reducible refine (HTR.out _).mono ?_);rintro e1 w1 ⟨rfl,hb⟩;(replace TN:=hid (TN.out.below Zb3 hb));(replace TA:=hid (TA.out.below Zb3 hb));(replace TB:=hid (TB.out.below Zb3 hb));(replace FR:=hid (FR.out.below hz hb));clear k00 k01 k02 k03 k10 k11 k12 k13 z0 z1 z2 z3 f0 f1 f2 f3;obtain⟨k00,k01,k02,k03⟩:=TA.out;obtain⟨k10,k11,k12,k13⟩:=TB.out;obtain⟨⟨z0,z1,z2,z3⟩,f0,f1,f2,f3⟩:=FR.out;clear q0;have q0:=nd_k0 TN.out HK.out;have hzo:=hz;(replace hz:w.heap.size+3 < w1.heap.size:=Nat.lt_of_lt_of_le hz hb.size);(replace HB:=hid (HB.out.trans (hb.mono HB.out.size)));clear hb hzo))
 refine bodyPost_ret (Kit.zaa rfl _ _ (w.heap.size+3) 0 [Jj Jq 1,Jj Jq 1,Jj Jq (n:Int),.slice A n c] _ rfl (zba Zb6 Zb6 Zb6 Zb6) Tryz.underlying32 rfl Zb5) rfl ?_
 refine⟨A,c,rfl,?_,?_⟩
 ·exact (((((HRZ.out.below HB.out).setCell (p:=⟨w.heap.size+3,0,none⟩) (Nat.le_add_right _ _) _).setCell (p:=⟨w.heap.size+3,1,none⟩) (Nat.le_add_right _ _) _).setCell (p:=⟨w.heap.size+3,2,none⟩) (Nat.le_add_right _ _) _).setCell (p:=⟨w.heap.size+3,3,none⟩) (Nat.le_add_right _ _) _).more Zba
 exact (((HB.out.setCell (p:=⟨w.heap.size+3,0,none⟩) (Nat.le_add_right _ _) _).setCell (p:=⟨w.heap.size+3,1,none⟩) (Nat.le_add_right _ _) _).setCell (p:=⟨w.heap.size+3,2,none⟩) (Nat.le_add_right _ _) _).setCell (p:=⟨w.heap.size+3,3,none⟩) (Nat.le_add_right _ _) _
theorem rnode_sume (x:Nd) (hk:x.kd=1∨x.kd=2∨x.kd=3) (H W C:Int) (A:Option Addr) (n c:Nat) (H2 W2 C2:Int) (B:Option Addr) (m d:Nat) (ht:tensB H W C n=true) (r:Res) (h0:r.er≠0) (w:World) (hK:∀ w1:World,Below w.heap.size w w1→Calls Tryz.prog 21 #[.agg x.val] w1 fun e w'=>e=.returned (Jj Jq 0)∧Below w1.heap.size w1 w') (hS:∀ w1:World,Below w.heap.size w w1→Calls Tryz.prog 9 #[.agg x.val,.agg #[Jj Jq H,Jj Jq W,Jj Jq C,.slice A n c]] w1 (MAcc w1 r)):Calls Tryz.prog 7 #[.agg x.val,.agg #[Jj Jq H,Jj Jq W,Jj Jq C,.slice A n c],.agg #[Jj Jq H2,Jj Jq W2,Jj Jq C2,.slice B m d]] w (MTen w (Res.bad r.er)):=by
 have HC:=hid hS
 have d1:(r.er != 0)=true:=by simpa using h0
 have d2:(r.er == 0)=false:=by simpa using h0
 clear hS
 refine Z7m ?_;clear hK ht hk;intro HCK HTR HK HE
 go_enter Tryz.func7,Tryz.ntmps7
 go_upto_region 1 with fail
 obtain⟨W0,hW0,TN,HB,hz,TA,TB,FR⟩:=HE.out
 rw [← hW0]
 clear hW0 HE
 refine Z7o ?_;intro k00 k01 k02 k03 k10 k11 k12 k13 z0 z1 z2 z3 f0 f1 f2 f3
 refine Z7n ?_;intro q0 e4 g4 e5 g5 e6 g6 e7 g7 e8 g8 e9 g9
 go_wp2_with (first
  | (refine za4 rfl _ rfl w.heap.size x rfl TN.out ?_)
  | (go_at_call 21;(with_reducible refine (HCK.out _ HB.out).mono ?_);rintro e1 w1 ⟨rfl,hb⟩;(replace TN:=hid (TN.out.below Zb3 hb));(replace TA:=hid (TA.out.below Zb3 hb));(replace TB:=hid (TB.out.below Zb3 hb));(replace FR:=hid (FR.out.below hz hb));clear k00 k01 k02 k03 k10 k11 k12 k13 z0 z1 z2 z3 f0 f1 f2 f3;obtain⟨k00,k01,k02,k03⟩:=TA.out;obtain⟨k10,k11,k12,k13⟩:=TB.out;obtain⟨⟨z0,z1,z2,z3⟩,f0,f1,f2,f3⟩:=FR.out;clear q0;have q0:=TN.out.at 0 (Jj Jq x.kd) rfl;have hzo:=hz;(replace hz:w.heap.size+3 < w1.heap.size:=Nat.lt_of_lt_of_le hz hb.size);(replace HB:=hid (HB.out.trans (hb.mono HB.out.size)));clear hb hzo)
  | (go_at_call 22;(with_reducible refine (HTR.out _).mono ?_);rintro e1 w1 ⟨rfl,hb⟩;(replace TN:=hid (TN.out.below Zb3 hb));(replace TA:=hid (TA.out.below Zb3 hb));(replace TB:=hid (TB.out.below Zb3 hb));(replace FR:=hid (FR.out.below hz hb));clear k00 k01 k02 k03 k10 k11 k12 k13 z0 z1 z2 z3 f0 f1 f2 f3;obtain⟨k00,k01,k02,k03⟩:=TA.out;obtain⟨k10,k11,k12,k13⟩:=TB.out;obtain⟨⟨z0,z1,z2,z3⟩,f0,f1,f2,f3⟩:=FR.out;clear q0;have q0:=TN.out.at 0 (Jj Jq x.kd) rfl;have hzo:=hz;(replace hz:w.heap.size+3 < w1.heap.size:=Nat.lt_of_lt_of_le hz hb.size);(replace HB:=hid (HB.out.trans (hb.mono HB.out.size)));clear hb hzo)
  | (go_at_call 9;(with_reducible refine (HC.out _ HB.out).mono ?_);rintro e1 w1 ⟨v,rfl,ho,hb⟩;(replace TN:=hid (TN.out.below Zb3 hb));(replace TA:=hid (TA.out.below Zb3 hb));(replace TB:=hid (TB.out.below Zb3 hb));(replace FR:=hid (FR.out.below hz hb));clear k00 k01 k02 k03 k10 k11 k12 k13 z0 z1 z2 z3 f0 f1 f2 f3;obtain⟨k00,k01,k02,k03⟩:=TA.out;obtain⟨k10,k11,k12,k13⟩:=TB.out;obtain⟨⟨z0,z1,z2,z3⟩,f0,f1,f2,f3⟩:=FR.out;have hzo:=hz;(replace hz:w.heap.size+3 < w1.heap.size:=Nat.lt_of_lt_of_le hz hb.size);have HO1:=hid ho;obtain⟨A2,c2,rfl, -, -,hr2⟩:=Kit.zaj ho;have HR2:=hid hr2;(replace HB:=hid (HB.out.trans (hb.mono HB.out.size)));clear ho hb hzo hr2))
 refine bodyPost_ret (Kit.zaa rfl _ _ (w.heap.size+3) 0 [Jj Jq 0,Jj Jq 0,Jj Jq 0,.slice none 0 0] _ rfl (zba Zb6 Zb6 Zb6 Zb6) Tryz.underlying32 rfl Zb5) rfl ?_
 refine⟨_,rfl,zco _ _,?_⟩
 exact set4_allocR HB.out Zb3 _ _ _ _ _
theorem rnode_sum (x:Nd) (hk:x.kd=1∨x.kd=2∨x.kd=3) (H W C:Int) (A:Option Addr) (n c:Nat) (H2 W2 C2:Int) (B:Option Addr) (m d:Nat) (ht:tensB H W C n=true) (r q:Res) (h0:r.er=0) (w:World) (hK:∀ w1:World,Below w.heap.size w w1→Calls Tryz.prog 21 #[.agg x.val] w1 fun e w'=>e=.returned (Jj Jq 0)∧Below w1.heap.size w1 w') (hS:∀ w1:World,Below w.heap.size w w1→Calls Tryz.prog 9 #[.agg x.val,.agg #[Jj Jq H,Jj Jq W,Jj Jq C,.slice A n c]] w1 (MAcc w1 r)) (hP:∀ (w1:World) (A2:Option Addr) (c2:Nat),Below w.heap.size w w1→Kit.Rd w1 w1.heap.size A2 (I32v r.xs)→Calls Tryz.prog 28 #[.agg #[Jj Jq r.X,Jj Jq r.Y,Jj Jq r.U,.slice A2 r.m c2],.agg x.val] w1 (MTen w1 q)):Calls Tryz.prog 7 #[.agg x.val,.agg #[Jj Jq H,Jj Jq W,Jj Jq C,.slice A n c],.agg #[Jj Jq H2,Jj Jq W2,Jj Jq C2,.slice B m d]] w (MTen w q):=by
 have HC:=hid hS
 have HP:=hid hP
 clear hS hP
 have d1:(r.er != 0)=false:=by simpa using h0
 have d2:(r.er == 0)=true:=by simpa using h0
 refine Z7m ?_;clear hK ht hk;intro HCK HTR HK HE
 go_enter Tryz.func7,Tryz.ntmps7
 go_upto_region 1 with fail
 obtain⟨W0,hW0,TN,HB,hz,TA,TB,FR⟩:=HE.out
 rw [← hW0]
 clear hW0 HE
 refine Z7o ?_;intro k00 k01 k02 k03 k10 k11 k12 k13 z0 z1 z2 z3 f0 f1 f2 f3
 refine Z7n ?_;intro q0 e4 g4 e5 g5 e6 g6 e7 g7 e8 g8 e9 g9
 go_wp2_with (first
  | (refine za4 rfl _ rfl w.heap.size x rfl TN.out ?_)
  | (go_at_call 21;(with_reducible refine (HCK.out _ HB.out).mono ?_);rintro e1 w1 ⟨rfl,hb⟩;(replace TN:=hid (TN.out.below Zb3 hb));(replace TA:=hid (TA.out.below Zb3 hb));(replace TB:=hid (TB.out.below Zb3 hb));(replace FR:=hid (FR.out.below hz hb));clear k00 k01 k02 k03 k10 k11 k12 k13 z0 z1 z2 z3 f0 f1 f2 f3;obtain⟨k00,k01,k02,k03⟩:=TA.out;obtain⟨k10,k11,k12,k13⟩:=TB.out;obtain⟨⟨z0,z1,z2,z3⟩,f0,f1,f2,f3⟩:=FR.out;clear q0;have q0:=TN.out.at 0 (Jj Jq x.kd) rfl;have hzo:=hz;(replace hz:w.heap.size+3 < w1.heap.size:=Nat.lt_of_lt_of_le hz hb.size);(replace HB:=hid (HB.out.trans (hb.mono HB.out.size)));clear hb hzo)
  | (go_at_call 22;(with_reducible refine (HTR.out _).mono ?_);rintro e1 w1 ⟨rfl,hb⟩;(replace TN:=hid (TN.out.below Zb3 hb));(replace TA:=hid (TA.out.below Zb3 hb));(replace TB:=hid (TB.out.below Zb3 hb));(replace FR:=hid (FR.out.below hz hb));clear k00 k01 k02 k03 k10 k11 k12 k13 z0 z1 z2 z3 f0 f1 f2 f3;obtain⟨k00,k01,k02,k03⟩:=TA.out;obtain⟨k10,k11,k12,k13⟩:=TB.out;obtain⟨⟨z0,z1,z2,z3⟩,f0,f1,f2,f3⟩:=FR.out;clear q0;have q0:=TN.out.at 0 (Jj Jq x.kd) rfl;have hzo:=hz;(replace hz:w.heap.size+3 < w1.heap.size:=Nat.lt_of_lt_of_le hz hb.size);(replace HB:=hid (HB.out.trans (hb.mono HB.out.size)));clear hb hzo)
  | (go_at_call 9;(with_reducible refine (HC.out _ HB.out).mono ?_);rintro e1 w1 ⟨v,rfl,ho,hb⟩;(replace TN:=hid (TN.out.below Zb3 hb));(replace TA:=hid (TA.out.below Zb3 hb));(replace TB:=hid (TB.out.below Zb3 hb));(replace FR:=hid (FR.out.below hz hb));clear k00 k01 k02 k03 k10 k11 k12 k13 z0 z1 z2 z3 f0 f1 f2 f3;obtain⟨k00,k01,k02,k03⟩:=TA.out;obtain⟨k10,k11,k12,k13⟩:=TB.out;obtain⟨⟨z0,z1,z2,z3⟩,f0,f1,f2,f3⟩:=FR.out;have hzo:=hz;(replace hz:w.heap.size+3 < w1.heap.size:=Nat.lt_of_lt_of_le hz hb.size);have HO1:=hid ho;obtain⟨A2,c2,rfl, -, -,hr2⟩:=Kit.zaj ho;have HR2:=hid hr2;(replace HB:=hid (HB.out.trans (hb.mono HB.out.size)));clear ho hb hzo hr2)
  | (refine za4 rfl _ rfl w.heap.size x rfl (TN.out.below (show w.heap.size < w1.heap.size by omega) ((Below.refl w1.heap.size w1).alloc (le_refl _) _)) ?_)
  | (go_at_call 28;(with_reducible refine (HP.out _ A2 c2 (HB.out.alloc HB.out.size _) ((HR2.out.alloc (le_refl _) _).more Zb7)).mono ?_);rintro e1 w2 ⟨v,rfl,ho,hb2⟩;have hb:Below w1.heap.size w1 w2:=((Below.refl _ _).alloc (le_refl _) _).trans (hb2.mono Zb7);have hzl:w.heap.size+3+1≤w1.heap.size:=hz;(replace TN:=hid (TN.out.below Zb3 hb));(replace TA:=hid (TA.out.below Zb3 hb));(replace TB:=hid (TB.out.below Zb3 hb));(replace FR:=hid (FR.out.below hz hb));clear k00 k01 k02 k03 k10 k11 k12 k13 z0 z1 z2 z3 f0 f1 f2 f3;obtain⟨k00,k01,k02,k03⟩:=TA.out;obtain⟨k10,k11,k12,k13⟩:=TB.out;obtain⟨⟨z0,z1,z2,z3⟩,f0,f1,f2,f3⟩:=FR.out;have hzo:=hz;(replace hz:w.heap.size+3 < w2.heap.size:=Nat.lt_of_lt_of_le hz hb.size);have HO:=hid (Kit.zah ho (show w.heap.size+3+1≤_ from by simp;omega));have HZO:=hid (lt_succ_self (w.heap.size+3));obtain⟨A3,c3,rfl, -, -, -⟩:=Kit.zaj ho;(replace HB:=hid (HB.out.trans (hb.mono HB.out.size)));clear ho hb hb2 hzo))
 refine bodyPost_ret (Kit.zaa rfl _ _ (w.heap.size+3) 0 [Jj Jq q.X,Jj Jq q.Y,Jj Jq q.U,.slice A3 q.m c3] _ rfl (zba Zb6 Zb6 Zb6 Zb6) Tryz.underlying32 rfl Zb5) rfl ?_
 refine⟨_,rfl,Kit.zah (za0 HO.out HZO.out) Zb3,?_⟩
 exact Z6
end CRun
end
end Go.Proofs.YtchpdhhpkljdhaaGreatDoor
