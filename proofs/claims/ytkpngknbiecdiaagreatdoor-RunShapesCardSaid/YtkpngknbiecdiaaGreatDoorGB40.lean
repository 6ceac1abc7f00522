/- Texts of this seat, one behind the other: KindShA, KindNums, PoolMax. -/
import Derived.Deep.CutRange
import Derived.Test.YtkpngknbiecdiaaGreatDoorGB8
import Derived.Test.YtkpngknbiecdiaaGreatDoorGB17
import Derived.Test.YtkpngknbiecdiaaGreatDoorGB20
import Derived.Test.YtkpngknbiecdiaaGreatDoorGB30
import Derived.Test.YtkpngknbiecdiaaGreatDoorGB34
import Derived.Test.YtkpngknbiecdiaaGreatDoorGB37
import Derived.Test.YtkpngknbiecdiaaGreatDoorGB39
section
namespace Go.Proofs.YtkpngknbiecdiaaGreatDoor.CKind
open Go Go.ChangeShapes Go.WideShapes Go.ChangeAt Go.RowKit Go.Deep
open Plain CSat CFix CShape CTensor CConv CDense CDepth
set_option linter.unusedVariables false
set_option linter.unusedSimpArgs false
set_option maxRecDepth 100000 in
set_option maxHeartbeats 8000000 in
theorem rks1 (H W C H2 W2 C2 na nb K S P O Z Y:Int) (WA:Option Addr) (nW cW:Nat) (BA:Option Addr) (nB cB:Nat) (m1 s1 z1 m2 s2 z2 lo hi:Int) (e u0 u1 u2:Int) (he:convE H W C K S P O nW nB=e) (hv:convS H W C K S P O nW nB=#[.int .i64 u0,.int .i64 u1,.int .i64 u2]) (w:World) :
  Calls Tryz.prog 14 #[.agg #[.int .i64 1,.int .i64 na,.int .i64 nb,.int .i64 K,.int .i64 S,.int .i64 P,.int .i64 O,.int .i8 Z,.int .i8 Y,.slice WA nW cW,.slice BA nB cB,.int .i32 m1,.int .i64 s1,.int .i8 z1,.int .i32 m2,.int .i64 s2,.int .i8 z2,.int .i8 lo,.int .i8 hi],.agg #[.int .i64 H,.int .i64 W,.int .i64 C],.agg #[.int .i64 H2,.int .i64 W2,.int .i64 C2]] w fun r w'=>r=.returned (.tuple #[.agg #[.int .i64 u0,.int .i64 u1,.int .i64 u2],.int .i64 e])∧Below w.heap.size w w':=by
 have HE:=Lib.hid he
 have HV:=Lib.hid hv
 clear he hv
 have hND:=(NdAt.new ⟨1,na,nb,K,S,P,O,Z,Y,WA,nW,cW,BA,nB,cB,m1,s1,z1,m2,s2,z2,lo,hi⟩ 28 w).below (B:=w.heap.size+1) (by omega) (w':=((((w.alloc (.cells #[.int .i64 1,.int .i64 na,.int .i64 nb,.int .i64 K,.int .i64 S,.int .i64 P,.int .i64 O,.int .i8 Z,.int .i8 Y,.slice WA nW cW,.slice BA nB cB,.int .i32 m1,.int .i64 s1,.int .i8 z1,.int .i32 m2,.int .i64 s2,.int .i8 z2,.int .i8 lo,.int .i8 hi] 28)).alloc (.cells #[.int .i64 H,.int .i64 W,.int .i64 C] 30)).alloc (.cells #[.int .i64 H2,.int .i64 W2,.int .i64 C2] 30)).alloc (.cells #[.int .i64 0,.int .i64 0,.int .i64 0] 30))) ((((Below.refl _ _).alloc (by simp) _).alloc (by first | exact Nat.le_refl _ | (simp;done) | (simp;omega) | omega) _).alloc (by first | exact Nat.le_refl _ | (simp;done) | (simp;omega) | omega) _)
 have TN:=Lib.hid hND
 clear hND
 go_enter Tryz.func14,Tryz.ntmps14
 go_wp2_with (first
  | (go_at_call 41;(with_reducible refine (refConv_to H W C (.int .i64 1) (.int .i64 na) (.int .i64 nb) (.int .i8 Y) (.int .i32 m1) (.int .i64 s1) (.int .i8 z1) (.int .i32 m2) (.int .i64 s2) (.int .i8 z2) (.int .i8 lo) (.int .i8 hi) K S P O Z WA BA nW cW nB cB e _ HE.out HV.out _).mono ?_);rintro e1 w1 ⟨rfl,hb⟩;obtain⟨hcc,hff⟩:=Kit.bcell hb;have hz:w.heap.size+4≤w1.heap.size:=(by have:=hb.size;simp at this;omega);have hz3:w.heap.size+3 < w1.heap.size:=(by omega);have hz2:w.heap.size+2 < w1.heap.size:=(by omega);have hz1:w.heap.size+1 < w1.heap.size:=(by omega);have hz0:w.heap.size < w1.heap.size:=(by omega);have HB:=Lib.hid hb;clear hb)
  | (refine wpList_load_mid rfl 28 (.tmp 3) rfl w.heap.size 0 rfl [.int .i64 1,.int .i64 na,.int .i64 nb,.int .i64 K,.int .i64 S,.int .i64 P,.int .i64 O,.int .i8 Z,.int .i8 Y,.slice WA nW cW,.slice BA nB cB,.int .i32 m1,.int .i64 s1,.int .i8 z1,.int .i32 m2,.int .i64 s2,.int .i8 z2,.int .i8 lo,.int .i8 hi] _ (TN.out) Tryz.underlying28 rfl (by kernel_rfl) ?_))
 refine bodyPost_ret (Kit.results_ct rfl _ _ (w.heap.size+3) 0 [.int .i64 u0,.int .i64 u1,.int .i64 u2] _ rfl (Kit.range_3 (by go_cell) (by go_cell) (by go_cell)) Tryz.underlying30 rfl (by kernel_rfl)) rfl ?_
 have hB1:Below w.heap.size w w1:=Below.trans (((((Below.refl _ _).alloc (by first | exact Nat.le_refl _ | (simp;done) | (simp;omega) | omega) _).alloc (by first | exact Nat.le_refl _ | (simp;done) | (simp;omega) | omega) _).alloc (by first | exact Nat.le_refl _ | (simp;done) | (simp;omega) | omega) _).alloc (by first | exact Nat.le_refl _ | (simp;done) | (simp;omega) | omega) _) (HB.out.mono (by first | exact Nat.le_refl _ | (simp;done) | (simp;omega) | omega))
 exact⟨rfl,(((hB1.setCell (p:=⟨w.heap.size+3,0,none⟩) (Nat.le_add_right _ _) _).setCell (p:=⟨w.heap.size+3,1,none⟩) (Nat.le_add_right _ _) _).setCell (p:=⟨w.heap.size+3,2,none⟩) (Nat.le_add_right _ _) _)⟩
set_option maxRecDepth 100000 in
set_option maxHeartbeats 8000000 in
theorem rks2 (H W C H2 W2 C2 na nb K S P O Z Y:Int) (WA:Option Addr) (nW cW:Nat) (BA:Option Addr) (nB cB:Nat) (m1 s1 z1 m2 s2 z2 lo hi:Int) (e u0 u1 u2:Int) (he:depthE H W C K S P nW nB=e) (hv:depthS H W C K S P nW nB=#[.int .i64 u0,.int .i64 u1,.int .i64 u2]) (w:World) :
  Calls Tryz.prog 14 #[.agg #[.int .i64 2,.int .i64 na,.int .i64 nb,.int .i64 K,.int .i64 S,.int .i64 P,.int .i64 O,.int .i8 Z,.int .i8 Y,.slice WA nW cW,.slice BA nB cB,.int .i32 m1,.int .i64 s1,.int .i8 z1,.int .i32 m2,.int .i64 s2,.int .i8 z2,.int .i8 lo,.int .i8 hi],.agg #[.int .i64 H,.int .i64 W,.int .i64 C],.agg #[.int .i64 H2,.int .i64 W2,.int .i64 C2]] w fun r w'=>r=.returned (.tuple #[.agg #[.int .i64 u0,.int .i64 u1,.int .i64 u2],.int .i64 e])∧Below w.heap.size w w':=by
 have HE:=Lib.hid he
 have HV:=Lib.hid hv
 clear he hv
 have hND:=(NdAt.new ⟨2,na,nb,K,S,P,O,Z,Y,WA,nW,cW,BA,nB,cB,m1,s1,z1,m2,s2,z2,lo,hi⟩ 28 w).below (B:=w.heap.size+1) (by omega) (w':=((((w.alloc (.cells #[.int .i64 2,.int .i64 na,.int .i64 nb,.int .i64 K,.int .i64 S,.int .i64 P,.int .i64 O,.int .i8 Z,.int .i8 Y,.slice WA nW cW,.slice BA nB cB,.int .i32 m1,.int .i64 s1,.int .i8 z1,.int .i32 m2,.int .i64 s2,.int .i8 z2,.int .i8 lo,.int .i8 hi] 28)).alloc (.cells #[.int .i64 H,.int .i64 W,.int .i64 C] 30)).alloc (.cells #[.int .i64 H2,.int .i64 W2,.int .i64 C2] 30)).alloc (.cells #[.int .i64 0,.int .i64 0,.int .i64 0] 30))) ((((Below.refl _ _).alloc (by simp) _).alloc (by first | exact Nat.le_refl _ | (simp;done) | (simp;omega) | omega) _).alloc (by first | exact Nat.le_refl _ | (simp;done) | (simp;omega) | omega) _)
 have TN:=Lib.hid hND
 clear hND
 go_enter Tryz.func14,Tryz.ntmps14
 go_wp2_with (first
  | (go_at_call 42;(with_reducible refine (refDep_to H W C (.int .i64 2) (.int .i64 na) (.int .i64 nb) (.int .i8 Y) (.int .i32 m1) (.int .i64 s1) (.int .i8 z1) (.int .i32 m2) (.int .i64 s2) (.int .i8 z2) (.int .i8 lo) (.int .i8 hi) K S P O Z WA BA nW cW nB cB e _ HE.out HV.out _).mono ?_);rintro e1 w1 ⟨rfl,hb⟩;obtain⟨hcc,hff⟩:=Kit.bcell hb;have hz:w.heap.size+4≤w1.heap.size:=(by have:=hb.size;simp at this;omega);have hz3:w.heap.size+3 < w1.heap.size:=(by omega);have hz2:w.heap.size+2 < w1.heap.size:=(by omega);have hz1:w.heap.size+1 < w1.heap.size:=(by omega);have hz0:w.heap.size < w1.heap.size:=(by omega);have HB:=Lib.hid hb;clear hb)
  | (refine wpList_load_mid rfl 28 (.tmp 3) rfl w.heap.size 0 rfl [.int .i64 2,.int .i64 na,.int .i64 nb,.int .i64 K,.int .i64 S,.int .i64 P,.int .i64 O,.int .i8 Z,.int .i8 Y,.slice WA nW cW,.slice BA nB cB,.int .i32 m1,.int .i64 s1,.int .i8 z1,.int .i32 m2,.int .i64 s2,.int .i8 z2,.int .i8 lo,.int .i8 hi] _ (TN.out) Tryz.underlying28 rfl (by kernel_rfl) ?_))
 refine bodyPost_ret (Kit.results_ct rfl _ _ (w.heap.size+3) 0 [.int .i64 u0,.int .i64 u1,.int .i64 u2] _ rfl (Kit.range_3 (by go_cell) (by go_cell) (by go_cell)) Tryz.underlying30 rfl (by kernel_rfl)) rfl ?_
 have hB1:Below w.heap.size w w1:=Below.trans (((((Below.refl _ _).alloc (by first | exact Nat.le_refl _ | (simp;done) | (simp;omega) | omega) _).alloc (by first | exact Nat.le_refl _ | (simp;done) | (simp;omega) | omega) _).alloc (by first | exact Nat.le_refl _ | (simp;done) | (simp;omega) | omega) _).alloc (by first | exact Nat.le_refl _ | (simp;done) | (simp;omega) | omega) _) (HB.out.mono (by first | exact Nat.le_refl _ | (simp;done) | (simp;omega) | omega))
 exact⟨rfl,(((hB1.setCell (p:=⟨w.heap.size+3,0,none⟩) (Nat.le_add_right _ _) _).setCell (p:=⟨w.heap.size+3,1,none⟩) (Nat.le_add_right _ _) _).setCell (p:=⟨w.heap.size+3,2,none⟩) (Nat.le_add_right _ _) _)⟩
set_option maxRecDepth 100000 in
set_option maxHeartbeats 8000000 in
theorem rks3 (H W C H2 W2 C2 na nb K S P O Z Y:Int) (WA:Option Addr) (nW cW:Nat) (BA:Option Addr) (nB cB:Nat) (m1 s1 z1 m2 s2 z2 lo hi:Int) (e u0 u1 u2:Int) (he:denseE H W C O nW nB=e) (hv:denseS H W C O nW nB=#[.int .i64 u0,.int .i64 u1,.int .i64 u2]) (w:World) :
  Calls Tryz.prog 14 #[.agg #[.int .i64 3,.int .i64 na,.int .i64 nb,.int .i64 K,.int .i64 S,.int .i64 P,.int .i64 O,.int .i8 Z,.int .i8 Y,.slice WA nW cW,.slice BA nB cB,.int .i32 m1,.int .i64 s1,.int .i8 z1,.int .i32 m2,.int .i64 s2,.int .i8 z2,.int .i8 lo,.int .i8 hi],.agg #[.int .i64 H,.int .i64 W,.int .i64 C],.agg #[.int .i64 H2,.int .i64 W2,.int .i64 C2]] w fun r w'=>r=.returned (.tuple #[.agg #[.int .i64 u0,.int .i64 u1,.int .i64 u2],.int .i64 e])∧Below w.heap.size w w':=by
 have HE:=Lib.hid he
 have HV:=Lib.hid hv
 clear he hv
 have hND:=(NdAt.new ⟨3,na,nb,K,S,P,O,Z,Y,WA,nW,cW,BA,nB,cB,m1,s1,z1,m2,s2,z2,lo,hi⟩ 28 w).below (B:=w.heap.size+1) (by omega) (w':=((((w.alloc (.cells #[.int .i64 3,.int .i64 na,.int .i64 nb,.int .i64 K,.int .i64 S,.int .i64 P,.int .i64 O,.int .i8 Z,.int .i8 Y,.slice WA nW cW,.slice BA nB cB,.int .i32 m1,.int .i64 s1,.int .i8 z1,.int .i32 m2,.int .i64 s2,.int .i8 z2,.int .i8 lo,.int .i8 hi] 28)).alloc (.cells #[.int .i64 H,.int .i64 W,.int .i64 C] 30)).alloc (.cells #[.int .i64 H2,.int .i64 W2,.int .i64 C2] 30)).alloc (.cells #[.int .i64 0,.int .i64 0,.int .i64 0] 30))) ((((Below.refl _ _).alloc (by simp) _).alloc (by first | exact Nat.le_refl _ | (simp;done) | (simp;omega) | omega) _).alloc (by first | exact Nat.le_refl _ | (simp;done) | (simp;omega) | omega) _)
 have TN:=Lib.hid hND
 clear hND
 go_enter Tryz.func14,Tryz.ntmps14
 go_wp2_with (first
  | (go_at_call 43;(with_reducible refine (rshape_to H W C (.int .i64 3) (.int .i64 na) (.int .i64 nb) (.int .i8 Y) (.int .i32 m1) (.int .i64 s1) (.int .i8 z1) (.int .i32 m2) (.int .i64 s2) (.int .i8 z2) (.int .i8 lo) (.int .i8 hi) K S P O Z WA BA nW cW nB cB e _ HE.out HV.out _).mono ?_);rintro e1 w1 ⟨rfl,hb⟩;obtain⟨hcc,hff⟩:=Kit.bcell hb;have hz:w.heap.size+4≤w1.heap.size:=(by have:=hb.size;simp at this;omega);have hz3:w.heap.size+3 < w1.heap.size:=(by omega);have hz2:w.heap.size+2 < w1.heap.size:=(by omega);have hz1:w.heap.size+1 < w1.heap.size:=(by omega);have hz0:w.heap.size < w1.heap.size:=(by omega);have HB:=Lib.hid hb;clear hb)
  | (refine wpList_load_mid rfl 28 (.tmp 3) rfl w.heap.size 0 rfl [.int .i64 3,.int .i64 na,.int .i64 nb,.int .i64 K,.int .i64 S,.int .i64 P,.int .i64 O,.int .i8 Z,.int .i8 Y,.slice WA nW cW,.slice BA nB cB,.int .i32 m1,.int .i64 s1,.int .i8 z1,.int .i32 m2,.int .i64 s2,.int .i8 z2,.int .i8 lo,.int .i8 hi] _ (TN.out) Tryz.underlying28 rfl (by kernel_rfl) ?_))
 refine bodyPost_ret (Kit.results_ct rfl _ _ (w.heap.size+3) 0 [.int .i64 u0,.int .i64 u1,.int .i64 u2] _ rfl (Kit.range_3 (by go_cell) (by go_cell) (by go_cell)) Tryz.underlying30 rfl (by kernel_rfl)) rfl ?_
 have hB1:Below w.heap.size w w1:=Below.trans (((((Below.refl _ _).alloc (by first | exact Nat.le_refl _ | (simp;done) | (simp;omega) | omega) _).alloc (by first | exact Nat.le_refl _ | (simp;done) | (simp;omega) | omega) _).alloc (by first | exact Nat.le_refl _ | (simp;done) | (simp;omega) | omega) _).alloc (by first | exact Nat.le_refl _ | (simp;done) | (simp;omega) | omega) _) (HB.out.mono (by first | exact Nat.le_refl _ | (simp;done) | (simp;omega) | omega))
 exact⟨rfl,(((hB1.setCell (p:=⟨w.heap.size+3,0,none⟩) (Nat.le_add_right _ _) _).setCell (p:=⟨w.heap.size+3,1,none⟩) (Nat.le_add_right _ _) _).setCell (p:=⟨w.heap.size+3,2,none⟩) (Nat.le_add_right _ _) _)⟩
end Go.Proofs.YtkpngknbiecdiaaGreatDoor.CKind
end
section
namespace Go.Proofs.YtkpngknbiecdiaaGreatDoor.CKind
open Go Go.ChangeShapes Go.WideShapes Go.ChangeAt Go.RowKit Go.Deep
open Plain CSat CShape CTensor CConv
set_option linter.unusedVariables false
set_option linter.unusedSimpArgs false
def Nd.Small (x:Nd):Prop:=(-128≤x.Z∧x.Z≤127)∧(-128≤x.Y∧x.Y≤127)∧(-128≤x.lo∧x.lo≤127)∧(-128≤x.hi∧x.hi≤127)
def Nd.nine (x:Nd):Array Value:=#[.int .i64 x.nb,.int .i64 x.K,.int .i64 x.S,.int .i64 x.P,.int .i64 x.O,.int .i64 x.Z,.int .i64 x.Y,.int .i64 x.lo,.int .i64 x.hi]
theorem there_new9 (w:World) {cs:Array Value} (T:TypeId) {n:Nat} (h:cs.size=n):(w.alloc (.cells cs T)).there w.heap.size 0 n:=fun j hj=>by
 rw [Nat.zero_add]
 constructor
 ·rw [Kit.new_cell]
  simp [h,hj]
 ·unfold World.frozen?;rw [heap_alloc_new];rfl
theorem setCells_below {g B:Nat} (hg:B≤g):∀ (vs:List Value) (o:Nat) (w:World),Below B w (w.setCells g o vs)
 | [],_,w=>Below.refl _ _
 | v :: vs,o,w=>((Below.refl B w).setCell (p:=⟨g,o,none⟩) hg v).trans (setCells_below hg vs (o+1) _)
set_option maxRecDepth 100000 in
set_option maxHeartbeats 4000000 in
theorem numbers_to (x:Nd) (hx:x.Small) (w:World) :
  Calls Tryz.prog 97 #[.agg x.val] w fun e w'=>e=.returned (.agg x.nine)∧Below w.heap.size w w':=by
 obtain⟨⟨z0,z1⟩,⟨y0,y1⟩,⟨l0,l1⟩,⟨h0,h1⟩⟩:=hx
 have i7:IntKind.i64.wrap x.Z=x.Z:=IntWalk.i64_in _ (by omega)
 have i8:IntKind.i64.wrap x.Y=x.Y:=IntWalk.i64_in _ (by omega)
 have i17:IntKind.i64.wrap x.lo=x.lo:=IntWalk.i64_in _ (by omega)
 have i18:IntKind.i64.wrap x.hi=x.hi:=IntWalk.i64_in _ (by omega)
 clear z0 z1 y0 y1 l0 l1 h0 h1
 have TN:=Lib.hid (NdAt.new x 28 w)
 go_enter Tryz.func97,Tryz.ntmps97
 go_upto_region 1 with fail
 have hth:=there_new9 (w.alloc (.cells x.val 28)) (cs:=#[.int .i64 0,.int .i64 0,.int .i64 0,.int .i64 0,.int .i64 0,.int .i64 0,.int .i64 0,.int .i64 0,.int .i64 0]) 130 (n:=9) rfl
 rw [World.size_alloc] at hth
 have HT:=Lib.hid hth
 clear hth
 replace TN:=Lib.hid (TN.out.below (B:=w.heap.size+1) (Nat.lt_succ_self _) ((Below.refl _ _).alloc (by simp) (.cells #[.int .i64 0,.int .i64 0,.int .i64 0,.int .i64 0,.int .i64 0,.int .i64 0,.int .i64 0,.int .i64 0,.int .i64 0] 130)))
 have HB:=Lib.hid (((Below.refl w.heap.size w).alloc (Nat.le_refl _) (.cells x.val 28)).alloc (by simp) (.cells #[.int .i64 0,.int .i64 0,.int .i64 0,.int .i64 0,.int .i64 0,.int .i64 0,.int .i64 0,.int .i64 0,.int .i64 0] 130))
 generalize (w.alloc (.cells x.val 28)).alloc (.cells #[.int .i64 0,.int .i64 0,.int .i64 0,.int .i64 0,.int .i64 0,.int .i64 0,.int .i64 0,.int .i64 0,.int .i64 0] 130)=W0 at TN HT HB ⊢
 have n2:=TN.out.at 2 (.int .i64 x.nb) rfl
 have n3:=TN.out.at 3 (.int .i64 x.K) rfl
 have n4:=TN.out.at 4 (.int .i64 x.S) rfl
 have n5:=TN.out.at 5 (.int .i64 x.P) rfl
 have n6:=TN.out.at 6 (.int .i64 x.O) rfl
 have n7:=TN.out.at 7 (.int .i8 x.Z) rfl
 have n8:=TN.out.at 8 (.int .i8 x.Y) rfl
 have n17:=TN.out.at 17 (.int .i8 x.lo) rfl
 have n18:=TN.out.at 18 (.int .i8 x.hi) rfl
 go_wp2_with (refine wpList_store_mid rfl 130 (.tmp 2) (.tmp 25) rfl (w.heap.size+1) 0 x.nine rfl rfl HT.out (by kernel_rfl) (by simp [Nd.nine,Value.oneCell']) ?_;have HQ:=Lib.hid (World.rangeAt_setCells_same W0 (w.heap.size+1) 0 x.nine.toList HT.out);have HZ:Hid (Below w.heap.size W0 (W0.setCells (w.heap.size+1) 0 x.nine.toList)):=Lib.hid (setCells_below (Nat.le_succ _) _ _ _);generalize W0.setCells (w.heap.size+1) 0 x.nine.toList=W1 at HQ HZ ⊢)
 refine bodyPost_ret (Kit.results_c rfl _ _ (w.heap.size+1) 0 x.nine.toList _ rfl HQ.out Tryz.underlying130 rfl (by kernel_rfl)) rfl ?_
 exact⟨rfl,HB.out.trans HZ.out⟩
def nineB (x y:Nd):Bool:=x.nb == y.nb && x.K == y.K && x.S == y.S && x.P == y.P && x.O == y.O && x.Z == y.Z && x.Y == y.Y && x.lo == y.lo && x.hi == y.hi
theorem eqNine (x y:Nd) (b:Bool) (hb:nineB x y=b) (w:World):(Op.equalIn 10000 130 (.agg x.nine) (.agg y.nine)).run Tryz.prog w=.ok b w:=by
 subst hb
 have u3:=Tryz.underlying3
 have a3:=Tryz.isAgg3
 have z3:=Tryz.sizeOf3
 unfold Nd.nine nineB
 rw [show (10000:Nat)=9999+1 from rfl,Op.equalIn]
 simp only [Sem.run_bind,run_underlying Tryz.underlying130,Result.andThen_ok]
 simp only [Std.Legacy.Range.forIn_eq_forIn_range',Std.Legacy.Range.size,Nat.sub_zero,Nat.add_sub_cancel,Nat.div_one,List.range'_succ,List.range'_zero,List.forIn_cons,List.forIn_nil]
 go_simp
 by_cases h0:x.nb=y.nb
 rotate_left
 ·simp [h0]
 by_cases h1:x.K=y.K
 rotate_left
 ·simp [h0,h1]
 by_cases h2:x.S=y.S
 rotate_left
 ·simp [h0,h1,h2]
 by_cases h3:x.P=y.P
 rotate_left
 ·simp [h0,h1,h2,h3]
 by_cases h4:x.O=y.O
 rotate_left
 ·simp [h0,h1,h2,h3,h4]
 by_cases h5:x.Z=y.Z
 rotate_left
 ·simp [h0,h1,h2,h3,h4,h5]
 by_cases h6:x.Y=y.Y
 rotate_left
 ·simp [h0,h1,h2,h3,h4,h5,h6]
 by_cases h7:x.lo=y.lo
 rotate_left
 ·simp [h0,h1,h2,h3,h4,h5,h6,h7]
 by_cases h8:x.hi=y.hi
 rotate_left
 ·simp [h0,h1,h2,h3,h4,h5,h6,h7,h8]
 simp [h0,h1,h2,h3,h4,h5,h6,h7,h8]
end Go.Proofs.YtkpngknbiecdiaaGreatDoor.CKind
end
section
namespace Go.Proofs.YtkpngknbiecdiaaGreatDoor.CPool
open Go Go.ChangeShapes Go.WideShapes Go.ChangeAt Go.RowKit Go.Shelf
open Plain CSat CShape CTensor CConv
set_option linter.unusedVariables false
attribute [local go_sem] Oper.semAt_some
def maxL (l:List Int):Int:=l.foldl (fun a x=>if a < x then x else a) (-128)
theorem maxL_snoc (l:List Int) (x:Int):maxL (l ++ [x])=if maxL l < x then x else maxL l:=by unfold maxL;rw [List.foldl_append];rfl
set_option maxRecDepth 100000 in
set_option maxHeartbeats 4000000 in
theorem maxC_to (g b off:Nat) (H W C:Int) (N c kk o d:Nat) (top left:Int) (G:Nat→Int) (hbz:∀ k, -128≤G k∧G k≤127) (ht:tensB H W C N=true) (hd:C=(d:Int)) (ho:o < d) (hk7:kk≤7)
  (t1 : -1000≤top) (t2:top≤1000) (l1 : -1000≤left) (l2:left≤1000) (R:Int) (hR:maxL ((rowsI H W C top left kk o kk).map G)=R)
  (w:World) (hg:g+4 < w.heap.size) (hb:b < w.heap.size) (hcap:CapAt g H W C (some ⟨b,off,none⟩) N c (kk:Int) top left (o:Int) w) (hc:∀ j,j < N→w.cell? ⟨b,off+j,none⟩=some (.int .i8 (G j))) :
  Calls Tryz.prog 54 #[.func (.func 138) #[] #[.pointer (some ⟨g+1,0,none⟩),.pointer (some ⟨g,0,none⟩),.pointer (some ⟨g+2,0,none⟩),.pointer (some ⟨g+3,0,none⟩),.pointer (some ⟨g+4,0,none⟩)]] w fun e w'=>e=.returned (.int .i8 R)∧Below w.heap.size w w':=by
 have HR:=Lib.hid hR
 clear hR
 refine (callsIn_wide (n:=5)).1 ?_
 refine callsIn_of_wp_marks Tryz.func54 rfl trivial ?_ rfl
 simp only [Tryz.ntmps54,List.size_toArray,List.length_cons,List.length_nil,Nat.reduceAdd,Nat.reduceSub,Array.replicate_succ,Array.replicate_zero,List.push_toArray,List.append_toArray,List.nil_append,List.cons_append]
 refine wpIn_wide.2 ?_
 go_wp2_with fail
 have bX:=Boxed.new w 22 (.int .i8 (-128))
 have hbW:Below w.heap.size w (w.alloc (.cells #[.int .i8 (-128)] 22)):=(Below.refl _ _).alloc (Nat.le_refl _) _
 have hsW:(w.alloc (.cells #[.int .i8 (-128)] 22)).heap.size=w.heap.size+1:=by simp
 generalize w.alloc (.cells #[.int .i8 (-128)] 22)=W1 at bX hbW hsW ⊢
 refine (wpIn_wide (n:=5)).1 ?_
 refine wpIn_rangeFunc_ownG (F:=Fence.wide) (n:=5) rfl (by omega) (gf:=138) (lb:=#[.pointer (some ⟨g+1,0,none⟩),.pointer (some ⟨g,0,none⟩),.pointer (some ⟨g+2,0,none⟩),.pointer (some ⟨g+3,0,none⟩),.pointer (some ⟨g+4,0,none⟩)]) rfl trivial (enters_of Tryz.func138 (by kernel_rfl) rfl)
  (seq_window (5 - 1) (by omega) g w.heap.size b off H W C N c kk o d top left G ht hd ho hk7 t1 t2 l1 l2 hg hb W1 (by omega) (hcap.below hg hbW) (fun j hj=>(hbW.cell (p:=⟨b,off+j,none⟩) hb).trans (hc j hj))) belowK_t (belowK_b (by omega)) (Below.refl _ _) (fun _=>rfl)
  (fun pre W=>Boxed W w.heap.size 22 (.int .i8 (maxL (pre.map G)))∧Below w.heap.size w W)
  (fun _ _ _=>False)
  (OwnFrom.and (Own.from (boxed_own w.heap.size 22 (fun pre:List Nat=>.int .i8 (maxL (pre.map G)))) _) (ownFrom_below (by omega) (by omega)))
  (fun _ _ _ _ _ hs _ _=>hs)
  ⟨bX,hbW⟩
  ?a1 ?assign ?body ?done ?stop
 case assign =>
  intro l x W K hK
  gi_wp2
  exact hK
 case body =>
  rintro l pre x W ⟨hX,hB⟩ _
  have hs:=maxL_snoc (pre.map G) (G x)
  have hm:(pre ++ [x]).map G=pre.map G ++ [G x]:=by simp
  rw [← hm] at hs
  clear hm
  obtain⟨m0,hm0⟩:∃ m0,maxL (pre.map G)=m0:=⟨_,rfl⟩
  rw [hm0] at hs hX
  generalize G x=y at hs ⊢
  have HS:=Lib.hid hs
  have HX:=Lib.hid hX
  have HB:=Lib.hid hB
  have hcx:=hX.cell
  have hfx:=hX.frozen
  clear hs hX hB hm0 hbz bX hbW hcap hc ht
  by_cases hlt:m0 < y
  ·have hmx:max m0 y=y:=by omega
   gi_wp2
   exact⟨(KeepsOthers.setCell _ _ _).from _,(Below.refl _ _).setCell (p:=⟨w.heap.size,0,none⟩) (Nat.le_refl _) _,by rw [HS.out,if_pos (by omega)];exact HX.out.set _,HB.out.setCell (p:=⟨w.heap.size,0,none⟩) (Nat.le_refl _) _⟩
  ·have hmx:max m0 y=m0:=by omega
   have hle:y≤m0:=by omega
   gi_wp2
   exact⟨(KeepsOthers.setCell _ _ _).from _,(Below.refl _ _).setCell (p:=⟨w.heap.size,0,none⟩) (Nat.le_refl _) _,by rw [HS.out,if_neg (by omega)];exact HX.out.set _,HB.out.setCell (p:=⟨w.heap.size,0,none⟩) (Nat.le_refl _) _⟩
 case done =>
  rintro D ls W hD rfl ⟨hX,hB⟩ hK
  rw [HR.out] at hX
  have hcx:=hX.cell
  have HB:=Lib.hid hB
  have HK:=Lib.hid hK
  have HD:=Lib.hid hD
  clear hX hB hK hD hbz bX hbW hcap hc ht
  go_wp2_with fail
  refine⟨by simp,.inl ⟨_,_,rfl,run_takeDeferred HK.out,?_⟩⟩
  refine⟨.int .i8 R,?_,rfl,HB.out.trans (belowK_b (w:=w) (Nat.le_refl _) _ D _ _ (by have:=HD.out;omega) HK.out rfl rfl)⟩
  simp [results,Tryz.f54,go_sem]
 case stop =>
  rintro D c pre W _ _ h _
  exact h.elim
end Go.Proofs.YtkpngknbiecdiaaGreatDoor.CPool
end
