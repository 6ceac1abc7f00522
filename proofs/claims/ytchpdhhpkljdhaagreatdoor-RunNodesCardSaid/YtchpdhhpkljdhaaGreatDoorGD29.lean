/- -/
import Derived.Test.YtchpdhhpkljdhaaGreatDoorGD28
open Go.Value renaming int→Jj
open Go.IntKind renaming i64→Jq
open Go.Lib (hid)
open Nat (le_refl lt_of_succ_lt lt_succ_self)
set_option linter.unusedVariables false
set_option linter.unusedSimpArgs false
set_option maxRecDepth 100000
set_option maxHeartbeats 16000000
namespace Go.Proofs.YtchpdhhpkljdhaaGreatDoor
namespace CConv
end CConv
namespace CKind
end CKind
namespace CSat
end CSat
open Go Go.ChangeShapes Go.WideShapes Go.ChangeAt Go.RowKit Go.Deep
section
namespace CRun
open Plain CSat CShape CTensor CConv CKind
theorem set4_alloc {g:Nat} {w w':World} (h:Below w.heap.size w w') (hg:w.heap.size≤g) (a b c d:Value) (o:Obj) :
  Below w.heap.size w (((((w'.setCell ⟨g,0,none⟩ a).setCell ⟨g,1,none⟩ b).setCell ⟨g,2,none⟩ c).setCell ⟨g,3,none⟩ d).alloc o):=by
 exact Z26
theorem csum_lane (x:Nd) (hk:x.kd=1) (hf:(decide (x.K=3) && decide (x.S=1))=true) (H W C:Int) (A:Option Addr) (n c:Nat) (r:Res) (w:World) (hC:∀ w1:World,Below w.heap.size w w1→Calls Tryz.prog 30 #[.agg #[Jj Jq H,Jj Jq W,Jj Jq C,.slice A n c],.agg x.val] w1 (MAcc w1 r)) :
  Calls Tryz.prog 8 #[.agg x.val,.agg #[Jj Jq H,Jj Jq W,Jj Jq C,.slice A n c]] w (MAcc w r):=by
 have HC:=hid hC
 have HF:Hid (∀ w,Calls Tryz.prog 29 #[.agg x.val] w fun e w'=>e=.returned (.bool true)∧Below w.heap.size w w'):=hid (fun w=>CLane.fits_to (Jj Jq x.kd) (Jj Jq x.na) (Jj Jq x.nb) (.int .i8 x.Y) (.int .i32 x.m1) (Jj Jq x.s1) (.int .i8 x.z1) (.int .i32 x.m2) (Jj Jq x.s2) (.int .i8 x.z2) (.int .i8 x.lo) (.int .i8 x.hi) x.K x.S x.P x.O x.Z x.WA x.BA x.nW x.cW x.nB x.cB true hf w)
 clear hC hf
 refine Za4 ?_;clear hk;intro HK HE
 go_enter Tryz.func8,Tryz.ntmps8
 go_upto_region 1 with fail
 obtain⟨W0,hW0,TN,HB,hz,TA,FR⟩:=HE.out
 rw [← hW0]
 clear hW0 HE
 refine Zah ?_;intro k00 k01 k02 k03 z0 z1 z2 z3 f0 f1 f2 f3 q0
 go_wp2_with (first
  | (refine za4 rfl _ rfl w.heap.size x rfl TN.out ?_)
  | (go_at_call 29;(with_reducible refine (HF.out _).mono ?_);rintro e1 w1 ⟨rfl,hb⟩;(replace TN:=hid (TN.out.below Zb3 hb));(replace TA:=hid (TA.out.below Zb3 hb));(replace FR:=hid (FR.out.below hz hb));clear k00 k01 k02 k03 z0 z1 z2 z3 f0 f1 f2 f3;obtain⟨k00,k01,k02,k03⟩:=TA.out;obtain⟨⟨z0,z1,z2,z3⟩,f0,f1,f2,f3⟩:=FR.out;have hzo:=hz;(replace hz:w.heap.size+2 < w1.heap.size:=Nat.lt_of_lt_of_le hz hb.size);(replace HB:=hid (HB.out.trans (hb.mono HB.out.size)));clear hb hzo)
  | (go_at_call 30;(with_reducible refine (HC.out _ HB.out).mono ?_);rintro e1 w1 ⟨v,rfl,ho,hb⟩;(replace TN:=hid (TN.out.below Zb3 hb));(replace TA:=hid (TA.out.below Zb3 hb));(replace FR:=hid (FR.out.below hz hb));clear k00 k01 k02 k03 z0 z1 z2 z3 f0 f1 f2 f3;obtain⟨k00,k01,k02,k03⟩:=TA.out;obtain⟨⟨z0,z1,z2,z3⟩,f0,f1,f2,f3⟩:=FR.out;have hzo:=hz;(replace hz:w.heap.size+2 < w1.heap.size:=Nat.lt_of_lt_of_le hz hb.size);have HO:=hid (Kit.zah ho (show w.heap.size+2+1≤_ from hzo));have HZO:=hid (lt_succ_self (w.heap.size+2));obtain⟨A2,c2,rfl, -, -, -⟩:=Kit.zaj ho;(replace HB:=hid (HB.out.trans (hb.mono HB.out.size)));clear ho hb))
 exact Za
theorem csum_lower (x:Nd) (hk:x.kd=1) (hf:(decide (x.K=3) && decide (x.S=1))=false) (H W C:Int) (A:Option Addr) (n c:Nat) (r:Res) (w:World) (hC:∀ w1:World,Below w.heap.size w w1→Calls Tryz.prog 31 #[.agg #[Jj Jq H,Jj Jq W,Jj Jq C,.slice A n c],.agg x.val] w1 (MAcc w1 r)) :
  Calls Tryz.prog 8 #[.agg x.val,.agg #[Jj Jq H,Jj Jq W,Jj Jq C,.slice A n c]] w (MAcc w r):=by
 have HC:=hid hC
 have HF:Hid (∀ w,Calls Tryz.prog 29 #[.agg x.val] w fun e w'=>e=.returned (.bool false)∧Below w.heap.size w w'):=hid (fun w=>CLane.fits_to (Jj Jq x.kd) (Jj Jq x.na) (Jj Jq x.nb) (.int .i8 x.Y) (.int .i32 x.m1) (Jj Jq x.s1) (.int .i8 x.z1) (.int .i32 x.m2) (Jj Jq x.s2) (.int .i8 x.z2) (.int .i8 x.lo) (.int .i8 x.hi) x.K x.S x.P x.O x.Z x.WA x.BA x.nW x.cW x.nB x.cB false hf w)
 clear hC hf
 refine Za4 ?_;clear hk;intro HK HE
 go_enter Tryz.func8,Tryz.ntmps8
 go_upto_region 1 with fail
 obtain⟨W0,hW0,TN,HB,hz,TA,FR⟩:=HE.out
 rw [← hW0]
 clear hW0 HE
 refine Zah ?_;intro k00 k01 k02 k03 z0 z1 z2 z3 f0 f1 f2 f3 q0
 go_wp2_with (first
  | (refine za4 rfl _ rfl w.heap.size x rfl TN.out ?_)
  | (go_at_call 29;(with_reducible refine (HF.out _).mono ?_);rintro e1 w1 ⟨rfl,hb⟩;(replace TN:=hid (TN.out.below Zb3 hb));(replace TA:=hid (TA.out.below Zb3 hb));(replace FR:=hid (FR.out.below hz hb));clear k00 k01 k02 k03 z0 z1 z2 z3 f0 f1 f2 f3;obtain⟨k00,k01,k02,k03⟩:=TA.out;obtain⟨⟨z0,z1,z2,z3⟩,f0,f1,f2,f3⟩:=FR.out;have hzo:=hz;(replace hz:w.heap.size+2 < w1.heap.size:=Nat.lt_of_lt_of_le hz hb.size);(replace HB:=hid (HB.out.trans (hb.mono HB.out.size)));clear hb hzo)
  | (go_at_call 31;(with_reducible refine (HC.out _ HB.out).mono ?_);rintro e1 w1 ⟨v,rfl,ho,hb⟩;(replace TN:=hid (TN.out.below Zb3 hb));(replace TA:=hid (TA.out.below Zb3 hb));(replace FR:=hid (FR.out.below hz hb));clear k00 k01 k02 k03 z0 z1 z2 z3 f0 f1 f2 f3;obtain⟨k00,k01,k02,k03⟩:=TA.out;obtain⟨⟨z0,z1,z2,z3⟩,f0,f1,f2,f3⟩:=FR.out;have hzo:=hz;(replace hz:w.heap.size+2 < w1.heap.size:=Nat.lt_of_lt_of_le hz hb.size);have HO:=hid (Kit.zah ho (show w.heap.size+2+1≤_ from hzo));have HZO:=hid (lt_succ_self (w.heap.size+2));obtain⟨A2,c2,rfl, -, -, -⟩:=Kit.zaj ho;(replace HB:=hid (HB.out.trans (hb.mono HB.out.size)));clear ho hb))
 exact Za
theorem csum_depth (x:Nd) (hk:x.kd=2) (H W C:Int) (A:Option Addr) (n c:Nat) (r:Res) (w:World) (hC:∀ w1:World,Below w.heap.size w w1→Calls Tryz.prog 32 #[.agg #[Jj Jq H,Jj Jq W,Jj Jq C,.slice A n c],.agg x.val] w1 (MAcc w1 r)) :
  Calls Tryz.prog 8 #[.agg x.val,.agg #[Jj Jq H,Jj Jq W,Jj Jq C,.slice A n c]] w (MAcc w r):=by
 have HC:=hid hC
 clear hC
 refine Za4 ?_;clear hk;intro HK HE
 go_enter Tryz.func8,Tryz.ntmps8
 go_upto_region 1 with fail
 obtain⟨W0,hW0,TN,HB,hz,TA,FR⟩:=HE.out
 rw [← hW0]
 clear hW0 HE
 refine Zah ?_;intro k00 k01 k02 k03 z0 z1 z2 z3 f0 f1 f2 f3 q0
 go_wp2_with (first
  | (refine za4 rfl _ rfl w.heap.size x rfl TN.out ?_)
  | (go_at_call 32;(with_reducible refine (HC.out _ HB.out).mono ?_);rintro e1 w1 ⟨v,rfl,ho,hb⟩;(replace TN:=hid (TN.out.below Zb3 hb));(replace TA:=hid (TA.out.below Zb3 hb));(replace FR:=hid (FR.out.below hz hb));clear k00 k01 k02 k03 z0 z1 z2 z3 f0 f1 f2 f3;obtain⟨k00,k01,k02,k03⟩:=TA.out;obtain⟨⟨z0,z1,z2,z3⟩,f0,f1,f2,f3⟩:=FR.out;have hzo:=hz;(replace hz:w.heap.size+2 < w1.heap.size:=Nat.lt_of_lt_of_le hz hb.size);have HO:=hid (Kit.zah ho (show w.heap.size+2+1≤_ from hzo));have HZO:=hid (lt_succ_self (w.heap.size+2));obtain⟨A2,c2,rfl, -, -, -⟩:=Kit.zaj ho;(replace HB:=hid (HB.out.trans (hb.mono HB.out.size)));clear ho hb))
 exact Za
theorem csum_dense (x:Nd) (hk:x.kd=3) (H W C:Int) (A:Option Addr) (n c:Nat) (r:Res) (w:World) (hC:∀ w1:World,Below w.heap.size w w1→Calls Tryz.prog 33 #[.agg #[Jj Jq H,Jj Jq W,Jj Jq C,.slice A n c],.agg x.val] w1 (MAcc w1 r)) :
  Calls Tryz.prog 8 #[.agg x.val,.agg #[Jj Jq H,Jj Jq W,Jj Jq C,.slice A n c]] w (MAcc w r):=by
 have HC:=hid hC
 clear hC
 refine Za4 ?_;clear hk;intro HK HE
 go_enter Tryz.func8,Tryz.ntmps8
 go_upto_region 1 with fail
 obtain⟨W0,hW0,TN,HB,hz,TA,FR⟩:=HE.out
 rw [← hW0]
 clear hW0 HE
 refine Zah ?_;intro k00 k01 k02 k03 z0 z1 z2 z3 f0 f1 f2 f3 q0
 go_wp2_with (first
  | (refine za4 rfl _ rfl w.heap.size x rfl TN.out ?_)
  | (go_at_call 33;(with_reducible refine (HC.out _ HB.out).mono ?_);rintro e1 w1 ⟨v,rfl,ho,hb⟩;(replace TN:=hid (TN.out.below Zb3 hb));(replace TA:=hid (TA.out.below Zb3 hb));(replace FR:=hid (FR.out.below hz hb));clear k00 k01 k02 k03 z0 z1 z2 z3 f0 f1 f2 f3;obtain⟨k00,k01,k02,k03⟩:=TA.out;obtain⟨⟨z0,z1,z2,z3⟩,f0,f1,f2,f3⟩:=FR.out;have hzo:=hz;(replace hz:w.heap.size+2 < w1.heap.size:=Nat.lt_of_lt_of_le hz hb.size);have HO:=hid (Kit.zah ho (show w.heap.size+2+1≤_ from hzo));have HZO:=hid (lt_succ_self (w.heap.size+2));obtain⟨A2,c2,rfl, -, -, -⟩:=Kit.zaj ho;(replace HB:=hid (HB.out.trans (hb.mono HB.out.size)));clear ho hb))
 exact Za
theorem csum_no (x:Nd) (hk:¬ x.kd=1∧¬ x.kd=2∧¬ x.kd=3) (H W C:Int) (A:Option Addr) (n c:Nat) (w:World):Calls Tryz.prog 8 #[.agg x.val,.agg #[Jj Jq H,Jj Jq W,Jj Jq C,.slice A n c]] w (MAcc w (Res.bad 6)):=by
 refine Za4 ?_;clear hk;intro HK HE
 go_enter Tryz.func8,Tryz.ntmps8
 exact Z3m
theorem csummed_err (x:Nd) (H W C:Int) (A:Option Addr) (n c:Nat) (r:Res) (h0:r.er≠0) (w:World) (hS:∀ w1:World,Below w.heap.size w w1→Calls Tryz.prog 8 #[.agg x.val,.agg #[Jj Jq H,Jj Jq W,Jj Jq C,.slice A n c]] w1 (MAcc w1 r)):Calls Tryz.prog 20 #[.agg x.val,.agg #[Jj Jq H,Jj Jq W,Jj Jq C,.slice A n c]] w (MTen w (Res.bad r.er)):=by
 have HC:=hid hS
 have d1:(r.er != 0)=true:=by simpa using h0
 have d2:(r.er == 0)=false:=by simpa using h0
 clear hS
 have HE:=hid (ent1 x H W C A n c 32 w)
 go_enter Tryz.func20,Tryz.ntmps20
 go_upto_region 1 with fail
 obtain⟨W0,hW0,TN,HB,hz,TA,FR⟩:=HE.out
 rw [← hW0]
 clear hW0 HE
 obtain⟨k00,k01,k02,k03⟩:=TA.out
 obtain⟨⟨z0,z1,z2,z3⟩,f0,f1,f2,f3⟩:=FR.out
 go_wp2_with (first
  | (refine za4 rfl _ rfl w.heap.size x rfl TN.out ?_)
  | (go_at_call 8;(with_reducible refine (HC.out _ HB.out).mono ?_);rintro e1 w1 ⟨v,rfl,ho,hb⟩;(replace TN:=hid (TN.out.below Zb3 hb));(replace TA:=hid (TA.out.below Zb3 hb));(replace FR:=hid (FR.out.below hz hb));clear k00 k01 k02 k03 z0 z1 z2 z3 f0 f1 f2 f3;obtain⟨k00,k01,k02,k03⟩:=TA.out;obtain⟨⟨z0,z1,z2,z3⟩,f0,f1,f2,f3⟩:=FR.out;have hzo:=hz;(replace hz:w.heap.size+2 < w1.heap.size:=Nat.lt_of_lt_of_le hz hb.size);have HO1:=hid ho;obtain⟨A2,c2,rfl, -, -,hr2⟩:=Kit.zaj ho;have HR2:=hid hr2;(replace HB:=hid (HB.out.trans (hb.mono HB.out.size)));clear ho hb hzo hr2))
 refine bodyPost_ret (Kit.zaa rfl _ _ (w.heap.size+2) 0 [Jj Jq 0,Jj Jq 0,Jj Jq 0,.slice none 0 0] _ rfl (zba Zb6 Zb6 Zb6 Zb6) Tryz.underlying32 rfl Zb5) rfl ?_
 refine⟨_,rfl,zco _ _,?_⟩
 exact set4_alloc HB.out Zb3 _ _ _ _ _
end CRun
end
section
namespace CDepth
open Go Go.ChangeShapes Go.WideShapes Go.ChangeAt Go.RowKit
open Plain CSat CShape CTensor CConv
def sumD (zs ws bs:List Int) (H W C S P:Int) (kk:Nat) (Z:Int) (h v o:Nat):Int :=
 IntKind.i32.wrap (bs.getD o 0+winD zs ws H W C ((h:Int) * S - P) ((v:Int) * S - P) kk o Z)
theorem depthE_ok {H W C K S P:Int} {nW nB:Nat} (h:zcw H W C K S P nW nB=0):za7 H W C K S P C=0∧(nW:Int)=C * K * K∧nW≤16384∧(nB:Int)=C:=by
 unfold zcw at h
 by_cases h1:za7 H W C K S P C≠0
 ·rw [if_pos h1] at h;exact absurd h h1
 ·rw [if_neg h1] at h
  by_cases h2:(nW:Int)=C * K * K∧nW≤16384∧(nB:Int)=C
  ·exact⟨by omega,h2⟩
  ·rw [if_neg h2] at h;omega
theorem dof_bad (H W C:Int) (A:Option Addr) (n c:Nat) (x0 x1 x2 x8 x11 x12 x13 x14 x15 x16 x17 x18:Value) (K S P O Z:Int) (WA BA:Option Addr) (nW cW nB cB:Nat) (ht:tensB H W C n=false) (w:World) :
  Calls Tryz.prog 32 #[.agg #[Jj Jq H,Jj Jq W,Jj Jq C,.slice A n c],.agg #[x0,x1,x2,Jj Jq K,Jj Jq S,Jj Jq P,Jj Jq O,.int .i8 Z,x8,.slice WA nW cW,.slice BA nB cB,x11,x12,x13,x14,x15,x16,x17,x18]] w (MadeA w 0 0 0 0 [] (Jj Jq 5)):=by
 have HT:=hid ht
 clear ht
 go_enter Tryz.func32,Tryz.ntmps32
 exact Z5m
theorem dof_err (H W C:Int) (A:Option Addr) (n c:Nat) (x0 x1 x2 x8 x11 x12 x13 x14 x15 x16 x17 x18:Value) (K S P O Z:Int) (WA BA:Option Addr) (nW cW nB cB:Nat) (ht:tensB H W C n=true) (er:Int) (he:zcw H W C K S P nW nB=er) (h0:er≠0) (w:World) :
  Calls Tryz.prog 32 #[.agg #[Jj Jq H,Jj Jq W,Jj Jq C,.slice A n c],.agg #[x0,x1,x2,Jj Jq K,Jj Jq S,Jj Jq P,Jj Jq O,.int .i8 Z,x8,.slice WA nW cW,.slice BA nB cB,x11,x12,x13,x14,x15,x16,x17,x18]] w (MadeA w 0 0 0 0 [] (Jj Jq er)):=by
 have hS:depthS H W C K S P nW nB=#[Jj Jq 0,Jj Jq 0,Jj Jq 0]:=by unfold depthS;rw [he,if_neg h0]
 refine Z7j ?_;intro HT HE HS h0b h0c
 clear ht he hS
 go_enter Tryz.func32,Tryz.ntmps32
 go_wp2_with (first
  | (go_at_call 13
     refine Z68 ?_;intro hal
     refine (CTensor.zak H W C A n c true HT.out _).mono ?_
     rintro e w1 ⟨rfl,hb⟩
     refine Z5w ?_;intro hh TB yTB TN yTN FR yFR
     refine Z71 ?_;intro HBW
     obtain⟨tbp0,tbp1,tbp2,tbp3⟩:=TB.out
     clear hb hh hal)
  | (go_at_call 82
     refine Z72 ?_;intro hal
     refine (dep_to H W C x0 x1 x2 x8 x11 x12 x13 x14 x15 x16 x17 x18 K S P O Z WA BA nW cW nB cB er _ HE.out HS.out _).mono ?_
     rintro e w2 ⟨rfl,hb⟩
     refine Z6r ?_;intro hh
     refine Z60 ?_;try clear TB yTB TN yTN FR yFR;intro TB yTB TN yTN FR yFR
     refine Z74 ?_;try clear HBW;intro HBW
     clear tbp0 tbp1 tbp2 tbp3
     obtain⟨⟨z0,z1,z2,z3⟩,z4,z5,z6,z7⟩:=FR.out
     obtain⟨tbp0,tbp1,tbp2,tbp3⟩:=TB.out
     clear hb hh hal)
  | (refine wpList_load_mid rfl 28 (.tmp 3) rfl (w.heap.size+1) 0 rfl [x0,x1,x2,Jj Jq K,Jj Jq S,Jj Jq P,Jj Jq O,.int .i8 Z,x8,.slice WA nW cW,.slice BA nB cB,x11,x12,x13,x14,x15,x16,x17,x18] _ TN.out Tryz.underlying28 rfl Zb5 ?_))
 exact Zf
theorem dof_yes (H W C:Int) (A:Option Addr) (zs:List Int) (n c:Nat) (hn:zs.length=n) (ht:tensB H W C n=true) (hz:I8b zs) (x0 x1 x2 x8 x11 x12 x13 x14 x15 x16 x17 x18:Value) (K S P O Z:Int) (WA BA:Option Addr) (nW cW nB cB:Nat) (ws:List Int) (hws:ws.length=nW) (hwc:nW≤cW) (hwb:I8b ws) (bs:List Int) (hbs:bs.length=nB)
  (he:zcw H W C K S P nW nB=0) (a b d kk:Nat) (ha:zad H K S P=(a:Int)) (hb:zad W K S P=(b:Int)) (hd:C=(d:Int)) (hk:K=(kk:Int)) (N:Nat) (hN:a * b * d=N) (z1 : -128≤Z) (z2:Z≤127)
  (w:World) (hr:Kit.Rd w w.heap.size A (I8s zs)) (hrw:Kit.Rd w w.heap.size WA (I8s ws)) (hrb:Kit.Rd w w.heap.size BA (I32v bs)) :
  Calls Tryz.prog 32 #[.agg #[Jj Jq H,Jj Jq W,Jj Jq C,.slice A n c],.agg #[x0,x1,x2,Jj Jq K,Jj Jq S,Jj Jq P,Jj Jq O,.int .i8 Z,x8,.slice WA nW cW,.slice BA nB cB,x11,x12,x13,x14,x15,x16,x17,x18]] w (MadeA w (a:Int) (b:Int) C N (rowL (gridF b d (sumD zs ws bs H W C S P kk Z)) N) (Jj Jq 0)):=by
 obtain⟨hsl,hnW,hn16,hnB⟩:=depthE_ok he
 obtain⟨hs0,har1,har2, -, -,hsr⟩:=za9 hsl
 obtain⟨-, -,k1,k2,st1,st2,pd1,pd2, -⟩:=za1 har1
 rw [ha,hb] at hsr
 obtain⟨q1,q2,q3,q4,q5,q6,q7⟩:=zac hsr
 refine Z87 ?_;intro hNI hN2 hel hS hnWN F hF hFF
 rw [← hF]
 have hboo:0 < nB:=by omega
 obtain⟨bb,ob,rfl,hbb,hcb⟩:=zax hrb (j:=0) Zb3
 obtain⟨i0,hi0,hi1,hi2,hi3⟩:=zbf info_i32
 have hmk:∀ w:World,(Instr.makeSlice 24 (Jj Jq 0) (Jj Jq (N:Int))).run Tryz.prog w=.ok (.slice (some ⟨w.heap.size,0,none⟩) 0 N) (w.alloc (.cells (madeCells #[.int .i32 0] N) 21)):=fun w=>by
  have h:=run_make (P:=Tryz.prog) w 24 21 i0 (.int .i32 0) Tryz.underlying24 hi0 hi1 .i64 .i64 0 N (Int.le_refl _) Zb3 Zbq Zb3
  rw [hi2,Nat.mul_one,show (Value.int .i32 0).cells=#[.int .i32 0] from rfl] at h
  simpa using h
 have hkk1:1≤kk:=by omega
 have hkk7:kk≤7:=by omega
 refine Zao ?_;intro HT HE HS HEL
 have HFF:=hid hFF
 refine Z9n ?_;intro HN HZ HWS HWB
 have HBS:=hid hbs
 have HD:=hid hd
 have HK:=hid hk
 have HNN:=hid hN
 have HNW:=hid hnWN
 have HNB:=hid hnB
 have HR:=hid hr
 have HRW:=hid hrw
 have HCB:=hid hcb
 clear hcb ht he hS hel hFF hn hz hws hwb hbs hd hk hN hnWN hr hrw hrb hnW hnB hsl hs0 har1 har2 hsr q7 hNI hF ha hb
 go_enter Tryz.func32,Tryz.ntmps32
 have HR9:=HR
 have HRW9:=HRW
 go_wp2_with (first
  | (go_at_call 13
     refine Z6w ?_;intro hal
     refine (CTensor.zak H W C A n c true HT.out _).mono ?_
     rintro e w1 ⟨rfl,hb⟩
     refine Z5z ?_;intro hh TB yTB
     refine Z7w ?_;intro qTN
     refine Z61 ?_;intro TN yTN
     clear qTN
     refine Z7f ?_;intro qFR
     refine Z6c ?_;intro FR yFR
     clear qFR
     refine Z7i ?_;try clear HR HRW;intro HR HRW
     refine Z71 ?_;intro HBW
     obtain⟨tbp0,tbp1,tbp2,tbp3⟩:=TB.out
     clear hb hh hal)
  | (go_at_call 82
     refine Z72 ?_;intro hal
     refine (dep_to H W C x0 x1 x2 x8 x11 x12 x13 x14 x15 x16 x17 x18 K S P O Z WA (some ⟨bb,ob,none⟩) nW cW nB cB 0 _ HE.out HS.out _).mono ?_
     rintro e w2 ⟨rfl,hb⟩
     refine Z6r ?_;intro hh
     refine Z60 ?_;try clear TB yTB TN yTN FR yFR;intro TB yTB TN yTN FR yFR
     refine Z7i ?_;try clear HR HRW;intro HR HRW
     refine Z74 ?_;try clear HBW;intro HBW
     clear tbp0 tbp1 tbp2 tbp3
     refine Z9x ?_;intro hg2 tbp0 tbp1 tbp2 tbp3
     clear hb hh hal)
  | (go_at_call 44
     refine Z91 ?_;intro hal
     refine (zb3 (a:Int) (b:Int) C N HEL.out _).mono ?_
     rintro e w3 ⟨rfl,hb⟩
     refine Z80 ?_;intro hh TS yTS
     refine Z60 ?_;try clear TB yTB TN yTN FR yFR;intro TB yTB TN yTN FR yFR
     refine Z7i ?_;try clear HR HRW;intro HR HRW
     refine Z74 ?_;try clear HBW;intro HBW
     clear tbp0 tbp1 tbp2 tbp3
     obtain⟨tbp0,tbp1,tbp2,tbp3⟩:=TB.out
     obtain⟨tsp0,tsp1,tsp2⟩:=TS.out
     clear hb hh hal)
  | (refine wpList_load_mid rfl 28 (.tmp 3) rfl (w.heap.size+1) 0 rfl [x0,x1,x2,Jj Jq K,Jj Jq S,Jj Jq P,Jj Jq O,.int .i8 Z,x8,.slice WA nW cW,.slice (some ⟨bb,ob,none⟩) nB cB,x11,x12,x13,x14,x15,x16,x17,x18] _ TN.out Tryz.underlying28 rfl Zb5 ?_))
 have hal:Below w3.heap.size w3 (w3.alloc (.cells (madeCells #[.int .i32 0] N) 21)):=(Below.refl _ _).alloc (le_refl _) _
 have h63:w.heap.size+3≤w2.heap.size:=hg2
 have hOA:Hid (OfAt w H W C A n c x0 x1 x2 x8 x11 x12 x13 x14 x15 x16 x17 x18 K S P O Z WA (some ⟨bb,ob,none⟩) nW cW nB cB (a:Int) (b:Int) C w2.heap.size (w3.alloc (.cells (madeCells #[.int .i32 0] N) 21))):=hid ⟨TB.out.below yTB hal,TN.out.below yTN hal,FR.out.below yFR hal,TS.out.below yTS hal,HBW.out.trans (hal.mono HBW.out.size),by simp;omega⟩
 have hW:Hid ((w3.alloc (.cells (madeCells #[.int .i32 0] N) 21)).ownsRow (w2.heap.size+1) 21 1 (.slice (some ⟨w3.heap.size,0,none⟩) 0 N) 0 (I32v (rowL F 0))):=hid (World.ownsRow_made (e:=21) w3 _ N Zb3 (by unfold maxLen;omega) Zbn)
 clear TB TN FR TS yTB yTN yFR yTS hal tbp0 tbp1 tbp2 tbp3 tsp0 tsp1 tsp2 HBW hg2
 generalize (w3.alloc (.cells (madeCells #[.int .i32 0] N) 21))=Wm at hOA hW ⊢
 generalize w2.heap.size=g6 at hOA hW h63 ⊢
 generalize (⟨w3.heap.size,0,none⟩:Addr)=ad at hW ⊢
 go_loopw [8,32] (fun v u wr=>∃ i:Nat,i≤a∧u=Jj Jq i∧Hid (OfAt w H W C A n c x0 x1 x2 x8 x11 x12 x13 x14 x15 x16 x17 x18 K S P O Z WA (some ⟨bb,ob,none⟩) nW cW nB cB (a:Int) (b:Int) C g6 wr)∧Hid (wr.ownsRow (g6+1) 21 1 v (i * b * d) (I32v (rowL F (i * b * d))))) (fun _ u _=>a - (intOf u).toNat)
 case atStart=>exact Z30
 case round =>
  obtain⟨i,hi,rfl,hA0,hW0⟩:=hrel
  clear hOA hW
  obtain⟨Av0,cv0,rfl, -, -, -⟩:=Kit.zaj hW0.out
  obtain⟨-, -, -,⟨s1,s2,s3⟩, -, -⟩:=hA0.out
  by_cases hlt:i < a
  ·have hiI:(i:Int) < (a:Int):=by omega
   go_wp2_with fail
   go_loopw [8,37] (fun v u wr=>∃ j:Nat,j≤b∧u=Jj Jq j∧Hid (OfAt w H W C A n c x0 x1 x2 x8 x11 x12 x13 x14 x15 x16 x17 x18 K S P O Z WA (some ⟨bb,ob,none⟩) nW cW nB cB (a:Int) (b:Int) C g6 wr)∧Hid (wr.ownsRow (g6+1) 21 1 v ((i * b+j) * d) (I32v (rowL F ((i * b+j) * d))))) (fun _ u _=>b - (intOf u).toNat)
   case atStart=>exact Z2y
   case round =>
    obtain⟨j,hj,rfl,hA1,hW1⟩:=hrel
    clear hA0 hW0 s1 s2 s3
    obtain⟨Av1,cv1,rfl, -, -, -⟩:=Kit.zaj hW1.out
    obtain⟨-, -, -,⟨s1,s2,s3⟩, -, -⟩:=hA1.out
    by_cases hltj:j < b
    ·have hjI:(j:Int) < (b:Int):=by omega
     obtain⟨o,ho⟩:∃ o,(i * b+j) * d=o:=⟨_,rfl⟩
     rw [ho] at hW1 ⊢
     have HOO:=hid ho
     clear ho
     go_wp2_with fail
     go_loopw [8,42] (fun v u wr=>∃ k:Nat,k≤d∧u=Jj Jq k∧Hid (OfAt w H W C A n c x0 x1 x2 x8 x11 x12 x13 x14 x15 x16 x17 x18 K S P O Z WA (some ⟨bb,ob,none⟩) nW cW nB cB (a:Int) (b:Int) C g6 wr)∧Hid (wr.ownsRow (g6+1) 21 1 v (o+k) (I32v (rowL F (o+k))))) (fun _ u _=>d - (intOf u).toNat)
     case atStart=>exact⟨0,Nat.zero_le _,rfl,hA1,hW1⟩
     case round =>
      obtain⟨k,hk,rfl,hA2,hW2⟩:=hrel
      clear hA1 hW1 s1 s2 s3
      obtain⟨Av,cv,rfl, -, -, -⟩:=Kit.zaj hW2.out
      obtain⟨hbx,hnd, -,⟨s1,s2,s3⟩,hbw,hsz⟩:=hA2.out
      have HBW:=hid hbw
      clear hbw
      by_cases hltk:k < d
      ·have hkI:(k:Int) < C:=by have:=HD.out;omega
       refine Z93 ?_;intro hk0
       have hkB:(k:Int) < (nB:Int):=by have:=HD.out;have:=HNB.out;omega
       have hom:o+k < N:=by rw [← HOO.out, ← HNN.out];exact at_lt hlt hltj hltk
       have hkl:k < bs.length:=by have:=HBS.out;have:=HD.out;have:=HNB.out;omega
       have hcb:wr.cell? ⟨bb,ob+k,none⟩=some (.int .i32 (bs.getD k 0)):=(HBW.out.cell (p:=⟨bb,ob+k,none⟩) hbb).trans (HCB.out k hkl)
       refine Zb0 ?_;intro hs hhs vs hvs b1 b2 e1 e2
       have e3:IntKind.i64.wrap (hs - P)=hs - P:=IntWalk.i64_in _ Zb3
       have e4:IntKind.i64.wrap (vs - P)=vs - P:=IntWalk.i64_in _ Zb3
       obtain⟨R1,hR1⟩:∃ R1,IntKind.i32.wrap (winD zs ws H W C (hs - P) (vs - P) kk k Z)=R1:=⟨_,rfl⟩
       have HR1:=hid hR1
       have hF1:=HFF.out i j k hltj hltk
       unfold sumD at hF1
       rw [HOO.out,hhs,hvs, ← wrap32_add',hR1] at hF1
       generalize bs.getD k 0=bo at hcb hF1
       obtain⟨x,hx⟩:∃ x,F (o+k)=x:=⟨_,rfl⟩
       have hadd:IntKind.i32.wrap (bo+R1)=x:=by rw [← hF1];exact hx
       have HXX:=hid hx
       clear hx hF1 hR1
       go_wp2_with fail
       refine wp_region_held_drew (S:=fun w'=>BoxAt w.heap.size H W C A n c w'∧zae (w.heap.size+1) x0 x1 x2 x8 x11 x12 x13 x14 x15 x16 x17 x18 K S P O Z WA (some ⟨bb,ob,none⟩) nW cW nB cB w'∧w'.cell? ⟨bb,ob+k,none⟩=some (.int .i32 bo)) Zb5 ⟨hbx,hnd,hcb⟩ (fun hHeld=>?_)
       clear hbx hnd hcb s1 s2 s3
       replace HBW:=hid HBW.out.drew
       refine Za9 ?_;intro hA3
       have hW3:Hid (wr.drew.ownsRow (g6+1) 21 1 (.slice Av (o+k) cv) (o+k) (I32v (rowL F (o+k)))):=hid (Kit.own_below hW2.out (Below.refl _ _).drew)
       have hsz:g6+1≤wr.drew.heap.size:=hsz
       clear hA2 hW2
       generalize wr.drew=Wa at HBW hA3 hW3 hsz hHeld ⊢
       refine Z8l ?_
       refine Z5y ?_
       refine Tk.x 1 rfl ?_
       refine Z5y ?_
       refine Tk.y 2 (v:=?_) rfl ?_ ?_
       rotate_left
       ·intro wS hSw
        obtain⟨hq1,hq2,hq3⟩:=hSw
        have hn9:=hq2.at 10 _ rfl;clear hq1 hq2
        exact Z0
       refine Z5y ?_
       refine Z94 ?_
       refine Z5y ?_
       refine Z9b ?_
       refine Z5y ?_
       refine Tk.y 5 (v:=?_) rfl ?_ ?_
       rotate_left
       ·exact Z4y
       refine Z5y ?_
       refine Tk.y 6 (v:=?_) rfl ?_ ?_
       rotate_left
       ·exact Z5p
       refine Z5y ?_
       refine Tk.t 7 (v:=.agg #[x0,x1,x2,Jj Jq K,Jj Jq S,Jj Jq P,Jj Jq O,.int .i8 Z,x8,.slice WA nW cW,.slice (some ⟨bb,ob,none⟩) nB cB,x11,x12,x13,x14,x15,x16,x17,x18]) rfl (yieldsIf_load_mid Zbu _ _ rfl (w.heap.size+1) 0 rfl [x0,x1,x2,Jj Jq K,Jj Jq S,Jj Jq P,Jj Jq O,.int .i8 Z,x8,.slice WA nW cW,.slice (some ⟨bb,ob,none⟩) nB cB,x11,x12,x13,x14,x15,x16,x17,x18] _ (fun w' h=>h.2.1) Tryz.underlying28 rfl Zb5) Zbd ?_
       refine Z5y ?_
       refine Z9f ?_
       refine Z5y ?_
       refine Zan ?_
       refine Z5y ?_
       refine Tk.y 10 (v:=?_) rfl ?_ ?_
       rotate_left
       ·intro wS hSw
        obtain⟨hq1,hq2,hq3⟩:=hSw
        exact Z5b
       refine Z5y ?_
       refine Za5 ?_
       refine Z5y ?_
       refine Zag ?_
       refine Z5y ?_
       refine Tk.y 13 (v:=?_) rfl ?_ ?_
       rotate_left
       ·intro wS hSw
        obtain⟨hq1,hq2,hq3⟩:=hSw
        exact Z5c
       refine Z5y ?_
       refine Tk.x 14 rfl ?_
       refine Z5y ?_
       refine Tk.x 15 rfl ?_
       refine Z5y ?_
       refine Zak ?_
       refine Z5y ?_
       refine Tk.y 17 (v:=?_) rfl ?_ ?_
       rotate_left
       ·intro wS hSw
        obtain⟨hq1,hq2,hq3⟩:=hSw
        exact Z5b
       refine Z5y ?_
       refine Tk.x 18 rfl ?_
       refine Z5y ?_
       refine Tk.x 19 rfl ?_
       refine Z5y ?_
       refine Tk.y 20 (v:=?_) rfl ?_ ?_
       rotate_left
       ·intro wS hSw
        obtain⟨hq1,hq2,hq3⟩:=hSw
        exact Z5c
       refine Z5y ?_
       refine Tk.x 21 rfl ?_
       refine Z5y ?_
       refine Tk.x 22 rfl ?_
       refine Z5y ?_
       refine Tk.s 23 rfl (fun Kq hK=>?_)
       go_simp
       go_at_call 83
       refine (dwindow_to H W C A zs n c HN.out HT.out HZ.out x0 x1 x2 x8 x11 x12 x13 x14 x15 x16 x17 x18 K S P O Z WA (some ⟨bb,ob,none⟩) nW cW nB cB ws HWS.out hwc HWB.out d kk k HD.out HK.out hkk1 hkk7 hltk HNW.out hn16 z1 z2 (hs - P) (vs - P) Zb3 Zb3 Zb3 Zb3 _ ((HR9.out.below HBW.out).more HBW.out.size) ((HRW9.out.below HBW.out).more HBW.out.size) R1 HR1.out).mono ?_
       rintro e Wb ⟨rfl,hb1⟩
       have hS1:BoxAt w.heap.size H W C A n c _∧zae (w.heap.size+1) x0 x1 x2 x8 x11 x12 x13 x14 x15 x16 x17 x18 K S P O Z WA (some ⟨bb,ob,none⟩) nW cW nB cB _∧_:=⟨hHeld.1.below (B':=_) Zb3 hb1,hHeld.2.1.below (B':=_) Zb3 hb1,(hb1.cell (p:=⟨bb,ob+k,none⟩) (by show bb < _;omega)).trans hHeld.2.2⟩
       replace HBW:=hid (HBW.out.trans (hb1.mono HBW.out.size))
       replace hA3:=hid (hA3.out.below h63 Zb3 hb1)
       replace hW3:=hid (Kit.own_below hW3.out hb1)
       replace hsz:=Nat.le_trans hsz hb1.size
       clear hb1 hHeld
       dsimp only
       refine hK.out _ _ ?_ (fun hHeld=>?_)
       ·exact hS1
       clear hK Kq
       refine Z5y ?_
       refine Tk.x 24 rfl ?_
       refine Z5y ?_
       refine Tk.s 25 rfl (fun Kq hK=>?_)
       go_simp
       refine hK.out _ _ ?_ (fun hHeld=>?_)
       ·exact⟨hHeld.1.below (B':=Wb.heap.size) Zb3 ((Below.refl _ _).alloc (le_refl _) _),hHeld.2.1.below (B':=Wb.heap.size) Zb3 ((Below.refl _ _).alloc (le_refl _) _),(((Below.refl Wb.heap.size Wb).alloc (le_refl _) _).cell (p:=⟨bb,ob+k,none⟩) (by show bb < _;omega)).trans hHeld.2.2⟩
       clear hK Kq
       refine Z5y ?_
       replace HBW:=hid (HBW.out.alloc HBW.out.size (.cells #[.int .i32 x] 21))
       replace hA3:=hid (hA3.out.below h63 (B':=Wb.heap.size) Zb3 ((Below.refl _ _).alloc (le_refl _) (.cells #[.int .i32 x] 21)))
       replace hW3:=hid (hW3.out.alloc (.cells #[.int .i32 x] 21))
       have HXR:=hid (Kit.Rd.new Wb [.int .i32 x] 21 (lt_succ_self _))
       replace hsz:g6+1≤(Wb.alloc (.cells #[.int .i32 x] 21)).heap.size:=by simp;omega
       generalize Wb.alloc (.cells #[.int .i32 x] 21)=Wc at HBW hA3 hW3 HXR hsz hHeld ⊢
       refine Tk.s 26 rfl (fun Kq hK=>?_)
       refine Kit.zar _ rfl (.tmp 45) (.tmp 70) _ rfl (g6+1) 21 i0 (.int .i32 0) 1 4 Tryz.underlying24 hi0 hi1 hi2 hi3 rfl Zbc _ (o+k) (I32v (rowL F (o+k))) rfl hW3.out _ _ 1 1 [.int .i32 x] rfl rfl HXR.out (Kit.za5 .i32 [x]) (by unfold maxLen;omega) Zb3 Zb3 ?_
       intro v5 w5 hown5 hg5 _
       obtain⟨A5,c5,rfl, -, -, -⟩:=Kit.zaj hown5
       have hb5:Below (g6+1) Wc w5:=(Below.refl _ _).grown hg5 hsz (Kit.zaq hW3.out)
       have hS1:BoxAt w.heap.size H W C A n c _∧zae (w.heap.size+1) x0 x1 x2 x8 x11 x12 x13 x14 x15 x16 x17 x18 K S P O Z WA (some ⟨bb,ob,none⟩) nW cW nB cB _∧_:=⟨hHeld.1.below (B':=_) Zb3 hb5,hHeld.2.1.below (B':=_) Zb3 hb5,(hb5.cell (p:=⟨bb,ob+k,none⟩) (by show bb < _;omega)).trans hHeld.2.2⟩
       rw [zby F (o+k) x HXX.out] at hown5
       replace HBW:=hid (HBW.out.trans (hb5.mono Zb3))
       replace hA3:=hid (hA3.out.below h63 (lt_succ_self _) hb5)
       replace hW3:=hid hown5
       clear hown5 hg5 hb5 hHeld HXR
       dsimp only
       refine hK.out _ _ ?_ (fun hHeld=>?_)
       ·exact hS1
       clear hK Kq
       refine Z5y ?_
       refine Tk.x 27 rfl ?_
       refine Z5y ?_
       refine Z6y ?_
       clear hHeld hadd e1 e2 e3 e4
       go_wp2_with fail
       go_roundw
       case rel=>exact⟨k+1,by omega,by go_num,hA3,hW3⟩
       case measure=>simp [intOf];omega
      ·obtain rfl:k=d:=by omega
       have hkI:¬ (k:Int) < C:=by have:=HD.out;omega
       refine Z9t ?_;intro e
       have hW3:Hid (wr.ownsRow (g6+1) 21 1 (.slice Av (o+k) cv) ((i * b+(j+1)) * k) (I32v (rowL F ((i * b+(j+1)) * k)))):=by rw [e];exact hW2
       exact Z5f
    ·obtain rfl:j=b:=by omega
     have e:(i+1) * j * d=(i * j+j) * d:=by rw [Nat.add_mul i 1,Nat.one_mul]
     have hW3:Hid (wr.ownsRow (g6+1) 21 1 (.slice Av1 ((i * j+j) * d) cv1) ((i+1) * j * d) (I32v (rowL F ((i+1) * j * d)))):=by rw [e];exact hW1
     exact Z5g
  ·obtain rfl:i=a:=by omega
   rw [HNN.out] at hW0
   clear s1 s2 s3
   obtain⟨-, -,⟨⟨z0,z1,z2,z3⟩,z4,z5,z6,z7⟩,⟨s1,s2,s3⟩,hbw,hsz⟩:=hA0.out
   have HBW:=hid hbw
   clear hbw
   rw [HNN.out]
   exact Z4m
end CDepth
end
section
namespace CAct
open Plain CSat CFix CShape CTensor CConv
theorem aof_bad (H W C:Int) (A:Option Addr) (n c:Nat) (x0 x1 x2:Value) (K S P O Z Y:Int) (WA BA:Option Addr) (nW cW nB cB:Nat) (m1 s1 z1 m2 s2 z2 lo hi:Int) (h1:tensB H W C n=false) (w:World) :
  Calls Tryz.prog 17 #[.agg #[Jj Jq H,Jj Jq W,Jj Jq C,.slice A n c],.agg #[x0,x1,x2,Jj Jq K,Jj Jq S,Jj Jq P,Jj Jq O,.int .i8 Z,.int .i8 Y,.slice WA nW cW,.slice BA nB cB,.int .i32 m1,Jj Jq s1,.int .i8 z1,.int .i32 m2,Jj Jq s2,.int .i8 z2,.int .i8 lo,.int .i8 hi]] w (MadeT w 0 0 0 0 [] (Jj Jq 5)):=by
 have HT1:=hid h1
 clear h1
 go_enter Tryz.func17,Tryz.ntmps17
 go_wp2_with (first
 | (go_at_call 13
    refine Z6n ?_;intro hal
    refine (zak H W C A n c false HT1.out _).mono ?_
    rintro e w1 ⟨rfl,hb⟩
    refine Z6d ?_;intro hh TA yTA qTN
    refine Z61 ?_;intro TN yTN
    clear qTN
    refine Z75 ?_;intro qFR
    refine Z6c ?_;intro FR yFR
    clear qFR
    refine Z71 ?_;intro HBW
    obtain⟨⟨z0,z1,z2,z3⟩,z4,z5,z6,z7⟩:=FR.out
    obtain⟨tap0,tap1,tap2,tap3⟩:=TA.out
    clear hb hh hal))
 refine bodyPost_ret (Kit.zaa rfl _ _ (w.heap.size+2) 0 [Jj Jq 0,Jj Jq 0,Jj Jq 0,.slice none 0 0] _ rfl (zao Zb6 Zb6 Zb6 Zb6) Tryz.underlying32 rfl Zb5) rfl ?_
 exact Z17
theorem aof_quant (H W C:Int) (A:Option Addr) (n c:Nat) (x0 x1 x2:Value) (K S P O Z Y:Int) (WA BA:Option Addr) (nW cW nB cB:Nat) (m1 s1 z1 m2 s2 z2 lo hi:Int) (h1:tensB H W C n=true) (hq:zau m1 s1=false) (w:World) :
  Calls Tryz.prog 17 #[.agg #[Jj Jq H,Jj Jq W,Jj Jq C,.slice A n c],.agg #[x0,x1,x2,Jj Jq K,Jj Jq S,Jj Jq P,Jj Jq O,.int .i8 Z,.int .i8 Y,.slice WA nW cW,.slice BA nB cB,.int .i32 m1,Jj Jq s1,.int .i8 z1,.int .i32 m2,Jj Jq s2,.int .i8 z2,.int .i8 lo,.int .i8 hi]] w (MadeT w 0 0 0 0 [] (Jj Jq 7)):=by
 have HT1:=hid h1
 have HQ:=hid hq
 clear h1 hq
 go_enter Tryz.func17,Tryz.ntmps17
 go_wp2_with (first
 | (go_at_call 13
    refine Z6n ?_;intro hal
    refine (zak H W C A n c true HT1.out _).mono ?_
    rintro e w1 ⟨rfl,hb⟩
    refine Z6d ?_;intro hh TA yTA qTN
    refine Z61 ?_;intro TN yTN
    clear qTN
    refine Z75 ?_;intro qFR
    refine Z6c ?_;intro FR yFR
    clear qFR
    refine Z71 ?_;intro HBW
    obtain⟨tap0,tap1,tap2,tap3⟩:=TA.out
    refine Z6q ?_;intro n11 n12 n13
    clear hb hh hal)
 | (go_at_call 42
    refine Z72 ?_;intro hal
    refine (zb0 _ _ _ _).mono ?_
    rintro e w2 ⟨rfl,hb⟩
    refine Z6r ?_;intro hh
    refine Z78 ?_;try clear TA yTA;intro TA yTA
    refine Z64 ?_;try clear TN yTN FR yFR;intro TN yTN FR yFR
    refine Z74 ?_;try clear HBW;intro HBW
    clear tap0 tap1 tap2 tap3 n11 n12 n13
    rw [HQ.out]
    obtain⟨⟨z0,z1,z2,z3⟩,z4,z5,z6,z7⟩:=FR.out
    obtain⟨tap0,tap1,tap2,tap3⟩:=TA.out
    refine Z6q ?_;intro n11 n12 n13
    clear hb hh hal))
 refine bodyPost_ret (Kit.zaa rfl _ _ (w.heap.size+2) 0 [Jj Jq 0,Jj Jq 0,Jj Jq 0,.slice none 0 0] _ rfl (zao Zb6 Zb6 Zb6 Zb6) Tryz.underlying32 rfl Zb5) rfl ?_
 exact Z17
theorem aof_yes (H W C:Int) (A:Option Addr) (n c:Nat) (zs:List Int) (hn:zs.length=n) (hn6:n≤1000000) (hz:I8b zs) (x0 x1 x2:Value) (K S P O Z Y:Int) (WA BA:Option Addr) (nW cW nB cB:Nat) (m1 s1 z1 m2 s2 z2 lo hi:Int) (hnb:NBd Z Y m1 z1 m2 z2 lo hi) (h1:tensB H W C n=true) (hq:zau m1 s1=true) (F:Nat→Int) (hF:∀ k,F k=heldZ (zs.getD k 0 - Z) m1 s1 z1 lo hi) (w:World) (hr:Kit.Rd w w.heap.size A (I8s zs)) :
  Calls Tryz.prog 17 #[.agg #[Jj Jq H,Jj Jq W,Jj Jq C,.slice A n c],.agg #[x0,x1,x2,Jj Jq K,Jj Jq S,Jj Jq P,Jj Jq O,.int .i8 Z,.int .i8 Y,.slice WA nW cW,.slice BA nB cB,.int .i32 m1,Jj Jq s1,.int .i8 z1,.int .i32 m2,Jj Jq s2,.int .i8 z2,.int .i8 lo,.int .i8 hi]] w (MadeT w H W C n (rowL F n) (Jj Jq 0)):=by
 have HT1:=hid h1
 have HQ:=hid hq
 have HN:=hid hn
 have HZ:=hid hz
 have HNB:=hid hnb
 have HF:=hid hF
 have HRA:=hid hr
 clear h1 hq hn hz hnb hF hr
 go_enter Tryz.func17,Tryz.ntmps17
 go_wp2_with (first
 | (go_at_call 13
    refine Z6n ?_;intro hal
    refine (zak H W C A n c true HT1.out _).mono ?_
    rintro e w1 ⟨rfl,hb⟩
    refine Z6d ?_;intro hh TA yTA qTN
    refine Z61 ?_;intro TN yTN
    clear qTN
    refine Z75 ?_;intro qFR
    refine Z6c ?_;intro FR yFR
    clear qFR
    replace HRA:=hid ((HRA.out.below hh).more hh.size)
    refine Z71 ?_;intro HBW
    obtain⟨tap0,tap1,tap2,tap3⟩:=TA.out
    refine Z6q ?_;intro n11 n12 n13
    clear hb hh hal)
 | (go_at_call 42
    refine Z72 ?_;intro hal
    refine (zb0 _ _ _ _).mono ?_
    rintro e w2 ⟨rfl,hb⟩
    refine Z6r ?_;intro hh
    refine Z78 ?_;try clear TA yTA;intro TA yTA
    refine Z64 ?_;try clear TN yTN FR yFR;intro TN yTN FR yFR
    replace HRA:=hid ((HRA.out.below hh).more hh.size)
    refine Z74 ?_;try clear HBW;intro HBW
    clear tap0 tap1 tap2 tap3 n11 n12 n13
    rw [HQ.out]
    obtain⟨tap0,tap1,tap2,tap3⟩:=TA.out
    refine Z6q ?_;intro n11 n12 n13
    clear hb hh hal)
 | (go_at_call 52
    have HBW2:=HBW
    have YFR2:=hid yFR
    have hal:Below w2.heap.size w2 w2:=Below.refl _ _
    refine (each_of H W C A zs n c HN.out hn6 HZ.out (w.heap.size+1) x0 x1 x2 K S P O Z Y WA BA nW cW nB cB m1 s1 z1 m2 s2 z2 lo hi HNB.out F HF.out _ TN.out yTN HRA.out).mono ?_
    rintro e w3 ⟨v3,rfl,ho3,hb⟩
    refine Z8c ?_;intro hh
    refine Z78 ?_;try clear TA yTA;intro TA yTA
    refine Z64 ?_;try clear TN yTN FR yFR;intro TN yTN FR yFR
    replace HRA:=hid ((HRA.out.below hh).more hh.size)
    refine Z74 ?_;try clear HBW;intro HBW
    clear tap0 tap1 tap2 tap3 n11 n12 n13
    obtain⟨⟨z0,z1,z2,z3⟩,z4,z5,z6,z7⟩:=FR.out
    have HGE:Hid (w.heap.size≤w2.heap.size):=hid HBW2.out.size
    have HGT:Hid (w.heap.size+2 < w2.heap.size):=hid YFR2.out
    obtain⟨A3,c3,rfl, -, -, -⟩:=Kit.zaj ho3
    have HO3:=hid ho3
    clear ho3
    obtain⟨tap0,tap1,tap2,tap3⟩:=TA.out
    refine Z6q ?_;intro n11 n12 n13
    clear hb hh hal))
 refine bodyPost_ret (Kit.zaa rfl _ _ (w.heap.size+2) 0 [Jj Jq H,Jj Jq W,Jj Jq C,.slice A3 n c3] _ rfl (zao Zb6 Zb6 Zb6 Zb6) Tryz.underlying32 rfl Zb5) rfl ?_
 exact Z46
end CAct
end
end Go.Proofs.YtchpdhhpkljdhaaGreatDoor
