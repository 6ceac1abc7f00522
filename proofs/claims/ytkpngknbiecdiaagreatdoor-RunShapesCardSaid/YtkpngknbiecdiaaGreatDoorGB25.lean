/- Texts of this seat, one behind the other: RunSumC. -/
import Derived.Deep.CutRange
import Derived.Test.YtkpngknbiecdiaaGreatDoorGB11
import Derived.Test.YtkpngknbiecdiaaGreatDoorGB17
import Derived.Test.YtkpngknbiecdiaaGreatDoorGB22
section
namespace Go.Proofs.YtkpngknbiecdiaaGreatDoor.CRun
set_option maxRecDepth 100000
open Go Go.ChangeShapes Go.WideShapes Go.ChangeAt Go.RowKit Go.Deep
open Plain CSat CShape CTensor CConv CKind
set_option linter.unusedVariables false
set_option linter.unusedSimpArgs false
theorem set4_alloc {g:Nat} {w w':World} (h:Below w.heap.size w w') (hg:w.heap.size≤g) (a b c d:Value) (o:Obj) :
  Below w.heap.size w (((((w'.setCell ⟨g,0,none⟩ a).setCell ⟨g,1,none⟩ b).setCell ⟨g,2,none⟩ c).setCell ⟨g,3,none⟩ d).alloc o):=by
 have h4:=(((h.setCell (p:=⟨g,0,none⟩) hg a).setCell (p:=⟨g,1,none⟩) hg b).setCell (p:=⟨g,2,none⟩) hg c).setCell (p:=⟨g,3,none⟩) hg d
 exact h4.alloc h4.size o
set_option maxRecDepth 100000 in
set_option maxHeartbeats 4000000 in
theorem csum_lane (x:Nd) (hk:x.kd=1) (hf:(decide (x.K=3) && decide (x.S=1))=true) (H W C:Int) (A:Option Addr) (n c:Nat) (r:Res) (w:World) (hC:∀ w1:World,Below w.heap.size w w1→Calls Tryz.prog 33 #[.agg #[.int .i64 H,.int .i64 W,.int .i64 C,.slice A n c],.agg x.val] w1 (MAcc w1 r)) :
  Calls Tryz.prog 10 #[.agg x.val,.agg #[.int .i64 H,.int .i64 W,.int .i64 C,.slice A n c]] w (MAcc w r):=by
 have HC:=Lib.hid hC
 have HF:Hid (∀ w,Calls Tryz.prog 32 #[.agg x.val] w fun e w'=>e=.returned (.bool true)∧Below w.heap.size w w'):=Lib.hid (fun w=>CLane.fits_to (.int .i64 x.kd) (.int .i64 x.na) (.int .i64 x.nb) (.int .i8 x.Y) (.int .i32 x.m1) (.int .i64 x.s1) (.int .i8 x.z1) (.int .i32 x.m2) (.int .i64 x.s2) (.int .i8 x.z2) (.int .i8 x.lo) (.int .i8 x.hi) x.K x.S x.P x.O x.Z x.WA x.BA x.nW x.cW x.nB x.cB true hf w)
 clear hC hf
 have HK:=Lib.hid hk
 clear hk
 have HE:=Lib.hid (ent1 x H W C A n c 41 w)
 go_enter Tryz.func10,Tryz.ntmps10
 go_upto_region 1 with fail
 obtain⟨W0,hW0,TN,HB,hz,TA,FR⟩:=HE.out
 rw [← hW0]
 clear hW0 HE
 obtain⟨k00,k01,k02,k03⟩:=TA.out
 obtain⟨⟨z0,z1,z2,z3⟩,f0,f1,f2,f3⟩:=FR.out
 have q0:=nd_k0 TN.out HK.out
 go_wp2_with (first
  | (refine nd_load rfl _ rfl w.heap.size x rfl TN.out ?_)
  | (go_at_call 32;(with_reducible refine (HF.out _).mono ?_);rintro e1 w1 ⟨rfl,hb⟩;(replace TN:=Lib.hid (TN.out.below (by omega) hb));(replace TA:=Lib.hid (TA.out.below (by omega) hb));(replace FR:=Lib.hid (FR.out.below hz hb));clear k00 k01 k02 k03 z0 z1 z2 z3 f0 f1 f2 f3;obtain⟨k00,k01,k02,k03⟩:=TA.out;obtain⟨⟨z0,z1,z2,z3⟩,f0,f1,f2,f3⟩:=FR.out;have hzo:=hz;(replace hz:w.heap.size+2 < w1.heap.size:=Nat.lt_of_lt_of_le hz hb.size);(replace HB:=Lib.hid (HB.out.trans (hb.mono HB.out.size)));clear hb hzo)
  | (go_at_call 33;(with_reducible refine (HC.out _ HB.out).mono ?_);rintro e1 w1 ⟨v,rfl,ho,hb⟩;(replace TN:=Lib.hid (TN.out.below (by omega) hb));(replace TA:=Lib.hid (TA.out.below (by omega) hb));(replace FR:=Lib.hid (FR.out.below hz hb));clear k00 k01 k02 k03 z0 z1 z2 z3 f0 f1 f2 f3;obtain⟨k00,k01,k02,k03⟩:=TA.out;obtain⟨⟨z0,z1,z2,z3⟩,f0,f1,f2,f3⟩:=FR.out;have hzo:=hz;(replace hz:w.heap.size+2 < w1.heap.size:=Nat.lt_of_lt_of_le hz hb.size);have HO:=Lib.hid (Kit.own_base ho (show w.heap.size+2+1≤_ from hzo));have HZO:=Lib.hid (Nat.lt_succ_self (w.heap.size+2));obtain⟨A2,c2,rfl, -, -, -⟩:=Kit.own_rd ho;(replace HB:=Lib.hid (HB.out.trans (hb.mono HB.out.size)));clear ho hb))
 refine bodyPost_ret (Kit.results_ct rfl _ _ (w.heap.size+2) 0 [.int .i64 r.X,.int .i64 r.Y,.int .i64 r.U,.slice A2 r.m c2] _ rfl (range_4r (by go_cell) (by go_cell) (by go_cell) (by go_cell)) Tryz.underlying41 rfl (by kernel_rfl)) rfl ?_
 refine⟨_,rfl,Kit.own_base (own_set4 HO.out HZO.out) (by omega),?_⟩
 exact (((HB.out.setCell (p:=⟨w.heap.size+2,0,none⟩) (Nat.le_add_right _ _) _).setCell (p:=⟨w.heap.size+2,1,none⟩) (Nat.le_add_right _ _) _).setCell (p:=⟨w.heap.size+2,2,none⟩) (Nat.le_add_right _ _) _).setCell (p:=⟨w.heap.size+2,3,none⟩) (Nat.le_add_right _ _) _
set_option maxRecDepth 100000 in
set_option maxHeartbeats 4000000 in
theorem csum_lower (x:Nd) (hk:x.kd=1) (hf:(decide (x.K=3) && decide (x.S=1))=false) (H W C:Int) (A:Option Addr) (n c:Nat) (r:Res) (w:World) (hC:∀ w1:World,Below w.heap.size w w1→Calls Tryz.prog 34 #[.agg #[.int .i64 H,.int .i64 W,.int .i64 C,.slice A n c],.agg x.val] w1 (MAcc w1 r)) :
  Calls Tryz.prog 10 #[.agg x.val,.agg #[.int .i64 H,.int .i64 W,.int .i64 C,.slice A n c]] w (MAcc w r):=by
 have HC:=Lib.hid hC
 have HF:Hid (∀ w,Calls Tryz.prog 32 #[.agg x.val] w fun e w'=>e=.returned (.bool false)∧Below w.heap.size w w'):=Lib.hid (fun w=>CLane.fits_to (.int .i64 x.kd) (.int .i64 x.na) (.int .i64 x.nb) (.int .i8 x.Y) (.int .i32 x.m1) (.int .i64 x.s1) (.int .i8 x.z1) (.int .i32 x.m2) (.int .i64 x.s2) (.int .i8 x.z2) (.int .i8 x.lo) (.int .i8 x.hi) x.K x.S x.P x.O x.Z x.WA x.BA x.nW x.cW x.nB x.cB false hf w)
 clear hC hf
 have HK:=Lib.hid hk
 clear hk
 have HE:=Lib.hid (ent1 x H W C A n c 41 w)
 go_enter Tryz.func10,Tryz.ntmps10
 go_upto_region 1 with fail
 obtain⟨W0,hW0,TN,HB,hz,TA,FR⟩:=HE.out
 rw [← hW0]
 clear hW0 HE
 obtain⟨k00,k01,k02,k03⟩:=TA.out
 obtain⟨⟨z0,z1,z2,z3⟩,f0,f1,f2,f3⟩:=FR.out
 have q0:=nd_k0 TN.out HK.out
 go_wp2_with (first
  | (refine nd_load rfl _ rfl w.heap.size x rfl TN.out ?_)
  | (go_at_call 32;(with_reducible refine (HF.out _).mono ?_);rintro e1 w1 ⟨rfl,hb⟩;(replace TN:=Lib.hid (TN.out.below (by omega) hb));(replace TA:=Lib.hid (TA.out.below (by omega) hb));(replace FR:=Lib.hid (FR.out.below hz hb));clear k00 k01 k02 k03 z0 z1 z2 z3 f0 f1 f2 f3;obtain⟨k00,k01,k02,k03⟩:=TA.out;obtain⟨⟨z0,z1,z2,z3⟩,f0,f1,f2,f3⟩:=FR.out;have hzo:=hz;(replace hz:w.heap.size+2 < w1.heap.size:=Nat.lt_of_lt_of_le hz hb.size);(replace HB:=Lib.hid (HB.out.trans (hb.mono HB.out.size)));clear hb hzo)
  | (go_at_call 34;(with_reducible refine (HC.out _ HB.out).mono ?_);rintro e1 w1 ⟨v,rfl,ho,hb⟩;(replace TN:=Lib.hid (TN.out.below (by omega) hb));(replace TA:=Lib.hid (TA.out.below (by omega) hb));(replace FR:=Lib.hid (FR.out.below hz hb));clear k00 k01 k02 k03 z0 z1 z2 z3 f0 f1 f2 f3;obtain⟨k00,k01,k02,k03⟩:=TA.out;obtain⟨⟨z0,z1,z2,z3⟩,f0,f1,f2,f3⟩:=FR.out;have hzo:=hz;(replace hz:w.heap.size+2 < w1.heap.size:=Nat.lt_of_lt_of_le hz hb.size);have HO:=Lib.hid (Kit.own_base ho (show w.heap.size+2+1≤_ from hzo));have HZO:=Lib.hid (Nat.lt_succ_self (w.heap.size+2));obtain⟨A2,c2,rfl, -, -, -⟩:=Kit.own_rd ho;(replace HB:=Lib.hid (HB.out.trans (hb.mono HB.out.size)));clear ho hb))
 refine bodyPost_ret (Kit.results_ct rfl _ _ (w.heap.size+2) 0 [.int .i64 r.X,.int .i64 r.Y,.int .i64 r.U,.slice A2 r.m c2] _ rfl (range_4r (by go_cell) (by go_cell) (by go_cell) (by go_cell)) Tryz.underlying41 rfl (by kernel_rfl)) rfl ?_
 refine⟨_,rfl,Kit.own_base (own_set4 HO.out HZO.out) (by omega),?_⟩
 exact (((HB.out.setCell (p:=⟨w.heap.size+2,0,none⟩) (Nat.le_add_right _ _) _).setCell (p:=⟨w.heap.size+2,1,none⟩) (Nat.le_add_right _ _) _).setCell (p:=⟨w.heap.size+2,2,none⟩) (Nat.le_add_right _ _) _).setCell (p:=⟨w.heap.size+2,3,none⟩) (Nat.le_add_right _ _) _
set_option maxRecDepth 100000 in
set_option maxHeartbeats 4000000 in
theorem csum_depth (x:Nd) (hk:x.kd=2) (H W C:Int) (A:Option Addr) (n c:Nat) (r:Res) (w:World) (hC:∀ w1:World,Below w.heap.size w w1→Calls Tryz.prog 35 #[.agg #[.int .i64 H,.int .i64 W,.int .i64 C,.slice A n c],.agg x.val] w1 (MAcc w1 r)) :
  Calls Tryz.prog 10 #[.agg x.val,.agg #[.int .i64 H,.int .i64 W,.int .i64 C,.slice A n c]] w (MAcc w r):=by
 have HC:=Lib.hid hC
 clear hC
 have HK:=Lib.hid hk
 clear hk
 have HE:=Lib.hid (ent1 x H W C A n c 41 w)
 go_enter Tryz.func10,Tryz.ntmps10
 go_upto_region 1 with fail
 obtain⟨W0,hW0,TN,HB,hz,TA,FR⟩:=HE.out
 rw [← hW0]
 clear hW0 HE
 obtain⟨k00,k01,k02,k03⟩:=TA.out
 obtain⟨⟨z0,z1,z2,z3⟩,f0,f1,f2,f3⟩:=FR.out
 have q0:=nd_k0 TN.out HK.out
 go_wp2_with (first
  | (refine nd_load rfl _ rfl w.heap.size x rfl TN.out ?_)
  | (go_at_call 35;(with_reducible refine (HC.out _ HB.out).mono ?_);rintro e1 w1 ⟨v,rfl,ho,hb⟩;(replace TN:=Lib.hid (TN.out.below (by omega) hb));(replace TA:=Lib.hid (TA.out.below (by omega) hb));(replace FR:=Lib.hid (FR.out.below hz hb));clear k00 k01 k02 k03 z0 z1 z2 z3 f0 f1 f2 f3;obtain⟨k00,k01,k02,k03⟩:=TA.out;obtain⟨⟨z0,z1,z2,z3⟩,f0,f1,f2,f3⟩:=FR.out;have hzo:=hz;(replace hz:w.heap.size+2 < w1.heap.size:=Nat.lt_of_lt_of_le hz hb.size);have HO:=Lib.hid (Kit.own_base ho (show w.heap.size+2+1≤_ from hzo));have HZO:=Lib.hid (Nat.lt_succ_self (w.heap.size+2));obtain⟨A2,c2,rfl, -, -, -⟩:=Kit.own_rd ho;(replace HB:=Lib.hid (HB.out.trans (hb.mono HB.out.size)));clear ho hb))
 refine bodyPost_ret (Kit.results_ct rfl _ _ (w.heap.size+2) 0 [.int .i64 r.X,.int .i64 r.Y,.int .i64 r.U,.slice A2 r.m c2] _ rfl (range_4r (by go_cell) (by go_cell) (by go_cell) (by go_cell)) Tryz.underlying41 rfl (by kernel_rfl)) rfl ?_
 refine⟨_,rfl,Kit.own_base (own_set4 HO.out HZO.out) (by omega),?_⟩
 exact (((HB.out.setCell (p:=⟨w.heap.size+2,0,none⟩) (Nat.le_add_right _ _) _).setCell (p:=⟨w.heap.size+2,1,none⟩) (Nat.le_add_right _ _) _).setCell (p:=⟨w.heap.size+2,2,none⟩) (Nat.le_add_right _ _) _).setCell (p:=⟨w.heap.size+2,3,none⟩) (Nat.le_add_right _ _) _
set_option maxRecDepth 100000 in
set_option maxHeartbeats 4000000 in
theorem csum_dense (x:Nd) (hk:x.kd=3) (H W C:Int) (A:Option Addr) (n c:Nat) (r:Res) (w:World) (hC:∀ w1:World,Below w.heap.size w w1→Calls Tryz.prog 36 #[.agg #[.int .i64 H,.int .i64 W,.int .i64 C,.slice A n c],.agg x.val] w1 (MAcc w1 r)) :
  Calls Tryz.prog 10 #[.agg x.val,.agg #[.int .i64 H,.int .i64 W,.int .i64 C,.slice A n c]] w (MAcc w r):=by
 have HC:=Lib.hid hC
 clear hC
 have HK:=Lib.hid hk
 clear hk
 have HE:=Lib.hid (ent1 x H W C A n c 41 w)
 go_enter Tryz.func10,Tryz.ntmps10
 go_upto_region 1 with fail
 obtain⟨W0,hW0,TN,HB,hz,TA,FR⟩:=HE.out
 rw [← hW0]
 clear hW0 HE
 obtain⟨k00,k01,k02,k03⟩:=TA.out
 obtain⟨⟨z0,z1,z2,z3⟩,f0,f1,f2,f3⟩:=FR.out
 have q0:=nd_k0 TN.out HK.out
 go_wp2_with (first
  | (refine nd_load rfl _ rfl w.heap.size x rfl TN.out ?_)
  | (go_at_call 36;(with_reducible refine (HC.out _ HB.out).mono ?_);rintro e1 w1 ⟨v,rfl,ho,hb⟩;(replace TN:=Lib.hid (TN.out.below (by omega) hb));(replace TA:=Lib.hid (TA.out.below (by omega) hb));(replace FR:=Lib.hid (FR.out.below hz hb));clear k00 k01 k02 k03 z0 z1 z2 z3 f0 f1 f2 f3;obtain⟨k00,k01,k02,k03⟩:=TA.out;obtain⟨⟨z0,z1,z2,z3⟩,f0,f1,f2,f3⟩:=FR.out;have hzo:=hz;(replace hz:w.heap.size+2 < w1.heap.size:=Nat.lt_of_lt_of_le hz hb.size);have HO:=Lib.hid (Kit.own_base ho (show w.heap.size+2+1≤_ from hzo));have HZO:=Lib.hid (Nat.lt_succ_self (w.heap.size+2));obtain⟨A2,c2,rfl, -, -, -⟩:=Kit.own_rd ho;(replace HB:=Lib.hid (HB.out.trans (hb.mono HB.out.size)));clear ho hb))
 refine bodyPost_ret (Kit.results_ct rfl _ _ (w.heap.size+2) 0 [.int .i64 r.X,.int .i64 r.Y,.int .i64 r.U,.slice A2 r.m c2] _ rfl (range_4r (by go_cell) (by go_cell) (by go_cell) (by go_cell)) Tryz.underlying41 rfl (by kernel_rfl)) rfl ?_
 refine⟨_,rfl,Kit.own_base (own_set4 HO.out HZO.out) (by omega),?_⟩
 exact (((HB.out.setCell (p:=⟨w.heap.size+2,0,none⟩) (Nat.le_add_right _ _) _).setCell (p:=⟨w.heap.size+2,1,none⟩) (Nat.le_add_right _ _) _).setCell (p:=⟨w.heap.size+2,2,none⟩) (Nat.le_add_right _ _) _).setCell (p:=⟨w.heap.size+2,3,none⟩) (Nat.le_add_right _ _) _
set_option maxRecDepth 100000 in
set_option maxHeartbeats 4000000 in
theorem csum_no (x:Nd) (hk:¬ x.kd=1∧¬ x.kd=2∧¬ x.kd=3) (H W C:Int) (A:Option Addr) (n c:Nat) (w:World):Calls Tryz.prog 10 #[.agg x.val,.agg #[.int .i64 H,.int .i64 W,.int .i64 C,.slice A n c]] w (MAcc w (Res.bad 6)):=by
 have HK:=Lib.hid hk
 clear hk
 have HE:=Lib.hid (ent1 x H W C A n c 41 w)
 go_enter Tryz.func10,Tryz.ntmps10
 go_upto_region 1 with fail
 obtain⟨W0,hW0,TN,HB,hz,TA,FR⟩:=HE.out
 rw [← hW0]
 clear hW0 HE
 obtain⟨k00,k01,k02,k03⟩:=TA.out
 obtain⟨⟨z0,z1,z2,z3⟩,f0,f1,f2,f3⟩:=FR.out
 have q0:=TN.out.at 0 (.int .i64 x.kd) rfl
 have hk:=HK.out
 have e1:(x.kd == 1)=false:=by simp;omega
 have g1:¬ x.kd=1:=by omega
 have e2:(x.kd == 2)=false:=by simp;omega
 have g2:¬ x.kd=2:=by omega
 have e3:(x.kd == 3)=false:=by simp;omega
 have g3:¬ x.kd=3:=by omega
 go_wp2_with fail
 refine bodyPost_ret (Kit.results_ct rfl _ _ (w.heap.size+2) 0 [.int .i64 0,.int .i64 0,.int .i64 0,.slice none 0 0] _ rfl (range_4r (by go_cell) (by go_cell) (by go_cell) (by go_cell)) Tryz.underlying41 rfl (by kernel_rfl)) rfl ?_
 refine⟨_,rfl,own_none _ _,?_⟩
 exact (((HB.out.setCell (p:=⟨w.heap.size+2,0,none⟩) (Nat.le_add_right _ _) _).setCell (p:=⟨w.heap.size+2,1,none⟩) (Nat.le_add_right _ _) _).setCell (p:=⟨w.heap.size+2,2,none⟩) (Nat.le_add_right _ _) _).setCell (p:=⟨w.heap.size+2,3,none⟩) (Nat.le_add_right _ _) _
set_option maxRecDepth 100000 in
set_option maxHeartbeats 4000000 in
theorem csummed_err (x:Nd) (H W C:Int) (A:Option Addr) (n c:Nat) (r:Res) (h0:r.er≠0) (w:World) (hS:∀ w1:World,Below w.heap.size w w1→Calls Tryz.prog 10 #[.agg x.val,.agg #[.int .i64 H,.int .i64 W,.int .i64 C,.slice A n c]] w1 (MAcc w1 r)):Calls Tryz.prog 24 #[.agg x.val,.agg #[.int .i64 H,.int .i64 W,.int .i64 C,.slice A n c]] w (MTen w (Res.bad r.er)):=by
 have HC:=Lib.hid hS
 have d1:(r.er != 0)=true:=by simpa using h0
 have d2:(r.er == 0)=false:=by simpa using h0
 clear hS
 have HE:=Lib.hid (ent1 x H W C A n c 32 w)
 go_enter Tryz.func24,Tryz.ntmps24
 go_upto_region 1 with fail
 obtain⟨W0,hW0,TN,HB,hz,TA,FR⟩:=HE.out
 rw [← hW0]
 clear hW0 HE
 obtain⟨k00,k01,k02,k03⟩:=TA.out
 obtain⟨⟨z0,z1,z2,z3⟩,f0,f1,f2,f3⟩:=FR.out
 go_wp2_with (first
  | (refine nd_load rfl _ rfl w.heap.size x rfl TN.out ?_)
  | (go_at_call 10;(with_reducible refine (HC.out _ HB.out).mono ?_);rintro e1 w1 ⟨v,rfl,ho,hb⟩;(replace TN:=Lib.hid (TN.out.below (by omega) hb));(replace TA:=Lib.hid (TA.out.below (by omega) hb));(replace FR:=Lib.hid (FR.out.below hz hb));clear k00 k01 k02 k03 z0 z1 z2 z3 f0 f1 f2 f3;obtain⟨k00,k01,k02,k03⟩:=TA.out;obtain⟨⟨z0,z1,z2,z3⟩,f0,f1,f2,f3⟩:=FR.out;have hzo:=hz;(replace hz:w.heap.size+2 < w1.heap.size:=Nat.lt_of_lt_of_le hz hb.size);have HO1:=Lib.hid ho;obtain⟨A2,c2,rfl, -, -,hr2⟩:=Kit.own_rd ho;have HR2:=Lib.hid hr2;(replace HB:=Lib.hid (HB.out.trans (hb.mono HB.out.size)));clear ho hb hzo hr2))
 refine bodyPost_ret (Kit.results_ct rfl _ _ (w.heap.size+2) 0 [.int .i64 0,.int .i64 0,.int .i64 0,.slice none 0 0] _ rfl (range_4r (by go_cell) (by go_cell) (by go_cell) (by go_cell)) Tryz.underlying32 rfl (by kernel_rfl)) rfl ?_
 refine⟨_,rfl,own_none _ _,?_⟩
 exact set4_alloc HB.out (by omega) _ _ _ _ _
end Go.Proofs.YtkpngknbiecdiaaGreatDoor.CRun
end
