/- -/
import Derived.Test.YtoffcaldhojjoaaGreatDoorGVU13
import Derived.Test.YtoffcaldhojjoaaGreatDoorGVU14
open Go.Lib (hid)
open Nat (le_refl lt_of_succ_lt lt_succ_self)
set_option linter.unusedVariables false
set_option linter.unusedSimpArgs false
set_option maxRecDepth 100000
set_option maxHeartbeats 16000000
namespace Go.Proofs.YtoffcaldhojjoaaGreatDoor
namespace CConv
end CConv
namespace CDense
end CDense
namespace CFix
end CFix
namespace CSat
end CSat
namespace CTensor
end CTensor
open Go Go.ChangeShapes Go.WideShapes Go.ChangeAt Go.RowKit Go.Deep
section
namespace CKind
open Plain CSat CFix CShape CTensor CConv CDense CDepth
theorem rks1 (H W C H2 W2 C2 na nb K S P O Z Y:Int) (WA:Option Addr) (nW cW:Nat) (BA:Option Addr) (nB cB:Nat) (m1 s1 z1 m2 s2 z2 lo hi:Int) (e u0 u1 u2:Int) (he:convE H W C K S P O nW nB=e) (hv:convS H W C K S P O nW nB=#[.int .i64 u0,.int .i64 u1,.int .i64 u2]) (w:World) :
  Calls Tryz.prog 24 #[.agg #[.int .i64 1,.int .i64 na,.int .i64 nb,.int .i64 K,.int .i64 S,.int .i64 P,.int .i64 O,.int .i8 Z,.int .i8 Y,.slice WA nW cW,.slice BA nB cB,.int .i32 m1,.int .i64 s1,.int .i8 z1,.int .i32 m2,.int .i64 s2,.int .i8 z2,.int .i8 lo,.int .i8 hi],.agg #[.int .i64 H,.int .i64 W,.int .i64 C],.agg #[.int .i64 H2,.int .i64 W2,.int .i64 C2]] w fun r w'=>r=.returned (.tuple #[.agg #[.int .i64 u0,.int .i64 u1,.int .i64 u2],.int .i64 e])∧Below w.heap.size w w':=by
 have HE:=hid he
 have HV:=hid hv
 clear he hv
 have hND:=(NdAt.new ⟨1,na,nb,K,S,P,O,Z,Y,WA,nW,cW,BA,nB,cB,m1,s1,z1,m2,s2,z2,lo,hi⟩ 61 w).below (B:=w.heap.size+1) (by omega) (w':=((((w.alloc (.cells #[.int .i64 1,.int .i64 na,.int .i64 nb,.int .i64 K,.int .i64 S,.int .i64 P,.int .i64 O,.int .i8 Z,.int .i8 Y,.slice WA nW cW,.slice BA nB cB,.int .i32 m1,.int .i64 s1,.int .i8 z1,.int .i32 m2,.int .i64 s2,.int .i8 z2,.int .i8 lo,.int .i8 hi] 61)).alloc (.cells #[.int .i64 H,.int .i64 W,.int .i64 C] 23)).alloc (.cells #[.int .i64 H2,.int .i64 W2,.int .i64 C2] 23)).alloc (.cells #[.int .i64 0,.int .i64 0,.int .i64 0] 23))) ((((Below.refl _ _).alloc (by simp) _).alloc (by first | exact le_refl _ | (simp;done) | (simp;omega) | omega) _).alloc (by first | exact le_refl _ | (simp;done) | (simp;omega) | omega) _)
 have TN:=hid hND
 clear hND
 go_enter Tryz.func24,Tryz.ntmps24
 go_wp2_with (first
  | (go_at_call 37;(with_reducible refine (refConv_to H W C (.int .i64 1) (.int .i64 na) (.int .i64 nb) (.int .i8 Y) (.int .i32 m1) (.int .i64 s1) (.int .i8 z1) (.int .i32 m2) (.int .i64 s2) (.int .i8 z2) (.int .i8 lo) (.int .i8 hi) K S P O Z WA BA nW cW nB cB e _ HE.out HV.out _).mono ?_);rintro e1 w1 ⟨rfl,hb⟩;obtain⟨hcc,hff⟩:=Kit.bcell hb;have hz:w.heap.size+4≤w1.heap.size:=(by have:=hb.size;simp at this;omega);have hz3:w.heap.size+3 < w1.heap.size:=(by omega);have hz2:w.heap.size+2 < w1.heap.size:=(by omega);have hz1:w.heap.size+1 < w1.heap.size:=(by omega);have hz0:w.heap.size < w1.heap.size:=(by omega);have HB:=hid hb;clear hb)
  | (refine wpList_load_mid rfl 61 (.tmp 3) rfl w.heap.size 0 rfl [.int .i64 1,.int .i64 na,.int .i64 nb,.int .i64 K,.int .i64 S,.int .i64 P,.int .i64 O,.int .i8 Z,.int .i8 Y,.slice WA nW cW,.slice BA nB cB,.int .i32 m1,.int .i64 s1,.int .i8 z1,.int .i32 m2,.int .i64 s2,.int .i8 z2,.int .i8 lo,.int .i8 hi] _ (TN.out) Tryz.underlying61 rfl (by kernel_rfl) ?_))
 refine bodyPost_ret (Kit.zaa rfl _ _ (w.heap.size+3) 0 [.int .i64 u0,.int .i64 u1,.int .i64 u2] _ rfl (Kit.zaj (by go_cell) (by go_cell) (by go_cell)) Tryz.underlying23 rfl (by kernel_rfl)) rfl ?_
 have hB1:Below w.heap.size w w1:=Below.trans (((((Below.refl _ _).alloc (by first | exact le_refl _ | (simp;done) | (simp;omega) | omega) _).alloc (by first | exact le_refl _ | (simp;done) | (simp;omega) | omega) _).alloc (by first | exact le_refl _ | (simp;done) | (simp;omega) | omega) _).alloc (by first | exact le_refl _ | (simp;done) | (simp;omega) | omega) _) (HB.out.mono (by first | exact le_refl _ | (simp;done) | (simp;omega) | omega))
 exact⟨rfl,(((hB1.setCell (p:=⟨w.heap.size+3,0,none⟩) (Nat.le_add_right _ _) _).setCell (p:=⟨w.heap.size+3,1,none⟩) (Nat.le_add_right _ _) _).setCell (p:=⟨w.heap.size+3,2,none⟩) (Nat.le_add_right _ _) _)⟩
theorem rks2 (H W C H2 W2 C2 na nb K S P O Z Y:Int) (WA:Option Addr) (nW cW:Nat) (BA:Option Addr) (nB cB:Nat) (m1 s1 z1 m2 s2 z2 lo hi:Int) (e u0 u1 u2:Int) (he:depthE H W C K S P nW nB=e) (hv:depthS H W C K S P nW nB=#[.int .i64 u0,.int .i64 u1,.int .i64 u2]) (w:World) :
  Calls Tryz.prog 24 #[.agg #[.int .i64 2,.int .i64 na,.int .i64 nb,.int .i64 K,.int .i64 S,.int .i64 P,.int .i64 O,.int .i8 Z,.int .i8 Y,.slice WA nW cW,.slice BA nB cB,.int .i32 m1,.int .i64 s1,.int .i8 z1,.int .i32 m2,.int .i64 s2,.int .i8 z2,.int .i8 lo,.int .i8 hi],.agg #[.int .i64 H,.int .i64 W,.int .i64 C],.agg #[.int .i64 H2,.int .i64 W2,.int .i64 C2]] w fun r w'=>r=.returned (.tuple #[.agg #[.int .i64 u0,.int .i64 u1,.int .i64 u2],.int .i64 e])∧Below w.heap.size w w':=by
 have HE:=hid he
 have HV:=hid hv
 clear he hv
 have hND:=(NdAt.new ⟨2,na,nb,K,S,P,O,Z,Y,WA,nW,cW,BA,nB,cB,m1,s1,z1,m2,s2,z2,lo,hi⟩ 61 w).below (B:=w.heap.size+1) (by omega) (w':=((((w.alloc (.cells #[.int .i64 2,.int .i64 na,.int .i64 nb,.int .i64 K,.int .i64 S,.int .i64 P,.int .i64 O,.int .i8 Z,.int .i8 Y,.slice WA nW cW,.slice BA nB cB,.int .i32 m1,.int .i64 s1,.int .i8 z1,.int .i32 m2,.int .i64 s2,.int .i8 z2,.int .i8 lo,.int .i8 hi] 61)).alloc (.cells #[.int .i64 H,.int .i64 W,.int .i64 C] 23)).alloc (.cells #[.int .i64 H2,.int .i64 W2,.int .i64 C2] 23)).alloc (.cells #[.int .i64 0,.int .i64 0,.int .i64 0] 23))) ((((Below.refl _ _).alloc (by simp) _).alloc (by first | exact le_refl _ | (simp;done) | (simp;omega) | omega) _).alloc (by first | exact le_refl _ | (simp;done) | (simp;omega) | omega) _)
 have TN:=hid hND
 clear hND
 go_enter Tryz.func24,Tryz.ntmps24
 go_wp2_with (first
  | (go_at_call 38;(with_reducible refine (refDep_to H W C (.int .i64 2) (.int .i64 na) (.int .i64 nb) (.int .i8 Y) (.int .i32 m1) (.int .i64 s1) (.int .i8 z1) (.int .i32 m2) (.int .i64 s2) (.int .i8 z2) (.int .i8 lo) (.int .i8 hi) K S P O Z WA BA nW cW nB cB e _ HE.out HV.out _).mono ?_);rintro e1 w1 ⟨rfl,hb⟩;obtain⟨hcc,hff⟩:=Kit.bcell hb;have hz:w.heap.size+4≤w1.heap.size:=(by have:=hb.size;simp at this;omega);have hz3:w.heap.size+3 < w1.heap.size:=(by omega);have hz2:w.heap.size+2 < w1.heap.size:=(by omega);have hz1:w.heap.size+1 < w1.heap.size:=(by omega);have hz0:w.heap.size < w1.heap.size:=(by omega);have HB:=hid hb;clear hb)
  | (refine wpList_load_mid rfl 61 (.tmp 3) rfl w.heap.size 0 rfl [.int .i64 2,.int .i64 na,.int .i64 nb,.int .i64 K,.int .i64 S,.int .i64 P,.int .i64 O,.int .i8 Z,.int .i8 Y,.slice WA nW cW,.slice BA nB cB,.int .i32 m1,.int .i64 s1,.int .i8 z1,.int .i32 m2,.int .i64 s2,.int .i8 z2,.int .i8 lo,.int .i8 hi] _ (TN.out) Tryz.underlying61 rfl (by kernel_rfl) ?_))
 refine bodyPost_ret (Kit.zaa rfl _ _ (w.heap.size+3) 0 [.int .i64 u0,.int .i64 u1,.int .i64 u2] _ rfl (Kit.zaj (by go_cell) (by go_cell) (by go_cell)) Tryz.underlying23 rfl (by kernel_rfl)) rfl ?_
 have hB1:Below w.heap.size w w1:=Below.trans (((((Below.refl _ _).alloc (by first | exact le_refl _ | (simp;done) | (simp;omega) | omega) _).alloc (by first | exact le_refl _ | (simp;done) | (simp;omega) | omega) _).alloc (by first | exact le_refl _ | (simp;done) | (simp;omega) | omega) _).alloc (by first | exact le_refl _ | (simp;done) | (simp;omega) | omega) _) (HB.out.mono (by first | exact le_refl _ | (simp;done) | (simp;omega) | omega))
 exact⟨rfl,(((hB1.setCell (p:=⟨w.heap.size+3,0,none⟩) (Nat.le_add_right _ _) _).setCell (p:=⟨w.heap.size+3,1,none⟩) (Nat.le_add_right _ _) _).setCell (p:=⟨w.heap.size+3,2,none⟩) (Nat.le_add_right _ _) _)⟩
theorem rks3 (H W C H2 W2 C2 na nb K S P O Z Y:Int) (WA:Option Addr) (nW cW:Nat) (BA:Option Addr) (nB cB:Nat) (m1 s1 z1 m2 s2 z2 lo hi:Int) (e u0 u1 u2:Int) (he:zcb H W C O nW nB=e) (hv:zcc H W C O nW nB=#[.int .i64 u0,.int .i64 u1,.int .i64 u2]) (w:World) :
  Calls Tryz.prog 24 #[.agg #[.int .i64 3,.int .i64 na,.int .i64 nb,.int .i64 K,.int .i64 S,.int .i64 P,.int .i64 O,.int .i8 Z,.int .i8 Y,.slice WA nW cW,.slice BA nB cB,.int .i32 m1,.int .i64 s1,.int .i8 z1,.int .i32 m2,.int .i64 s2,.int .i8 z2,.int .i8 lo,.int .i8 hi],.agg #[.int .i64 H,.int .i64 W,.int .i64 C],.agg #[.int .i64 H2,.int .i64 W2,.int .i64 C2]] w fun r w'=>r=.returned (.tuple #[.agg #[.int .i64 u0,.int .i64 u1,.int .i64 u2],.int .i64 e])∧Below w.heap.size w w':=by
 have HE:=hid he
 have HV:=hid hv
 clear he hv
 have hND:=(NdAt.new ⟨3,na,nb,K,S,P,O,Z,Y,WA,nW,cW,BA,nB,cB,m1,s1,z1,m2,s2,z2,lo,hi⟩ 61 w).below (B:=w.heap.size+1) (by omega) (w':=((((w.alloc (.cells #[.int .i64 3,.int .i64 na,.int .i64 nb,.int .i64 K,.int .i64 S,.int .i64 P,.int .i64 O,.int .i8 Z,.int .i8 Y,.slice WA nW cW,.slice BA nB cB,.int .i32 m1,.int .i64 s1,.int .i8 z1,.int .i32 m2,.int .i64 s2,.int .i8 z2,.int .i8 lo,.int .i8 hi] 61)).alloc (.cells #[.int .i64 H,.int .i64 W,.int .i64 C] 23)).alloc (.cells #[.int .i64 H2,.int .i64 W2,.int .i64 C2] 23)).alloc (.cells #[.int .i64 0,.int .i64 0,.int .i64 0] 23))) ((((Below.refl _ _).alloc (by simp) _).alloc (by first | exact le_refl _ | (simp;done) | (simp;omega) | omega) _).alloc (by first | exact le_refl _ | (simp;done) | (simp;omega) | omega) _)
 have TN:=hid hND
 clear hND
 go_enter Tryz.func24,Tryz.ntmps24
 go_wp2_with (first
  | (go_at_call 39;(with_reducible refine (rshape_to H W C (.int .i64 3) (.int .i64 na) (.int .i64 nb) (.int .i8 Y) (.int .i32 m1) (.int .i64 s1) (.int .i8 z1) (.int .i32 m2) (.int .i64 s2) (.int .i8 z2) (.int .i8 lo) (.int .i8 hi) K S P O Z WA BA nW cW nB cB e _ HE.out HV.out _).mono ?_);rintro e1 w1 ⟨rfl,hb⟩;obtain⟨hcc,hff⟩:=Kit.bcell hb;have hz:w.heap.size+4≤w1.heap.size:=(by have:=hb.size;simp at this;omega);have hz3:w.heap.size+3 < w1.heap.size:=(by omega);have hz2:w.heap.size+2 < w1.heap.size:=(by omega);have hz1:w.heap.size+1 < w1.heap.size:=(by omega);have hz0:w.heap.size < w1.heap.size:=(by omega);have HB:=hid hb;clear hb)
  | (refine wpList_load_mid rfl 61 (.tmp 3) rfl w.heap.size 0 rfl [.int .i64 3,.int .i64 na,.int .i64 nb,.int .i64 K,.int .i64 S,.int .i64 P,.int .i64 O,.int .i8 Z,.int .i8 Y,.slice WA nW cW,.slice BA nB cB,.int .i32 m1,.int .i64 s1,.int .i8 z1,.int .i32 m2,.int .i64 s2,.int .i8 z2,.int .i8 lo,.int .i8 hi] _ (TN.out) Tryz.underlying61 rfl (by kernel_rfl) ?_))
 refine bodyPost_ret (Kit.zaa rfl _ _ (w.heap.size+3) 0 [.int .i64 u0,.int .i64 u1,.int .i64 u2] _ rfl (Kit.zaj (by go_cell) (by go_cell) (by go_cell)) Tryz.underlying23 rfl (by kernel_rfl)) rfl ?_
 have hB1:Below w.heap.size w w1:=Below.trans (((((Below.refl _ _).alloc (by first | exact le_refl _ | (simp;done) | (simp;omega) | omega) _).alloc (by first | exact le_refl _ | (simp;done) | (simp;omega) | omega) _).alloc (by first | exact le_refl _ | (simp;done) | (simp;omega) | omega) _).alloc (by first | exact le_refl _ | (simp;done) | (simp;omega) | omega) _) (HB.out.mono (by first | exact le_refl _ | (simp;done) | (simp;omega) | omega))
 exact⟨rfl,(((hB1.setCell (p:=⟨w.heap.size+3,0,none⟩) (Nat.le_add_right _ _) _).setCell (p:=⟨w.heap.size+3,1,none⟩) (Nat.le_add_right _ _) _).setCell (p:=⟨w.heap.size+3,2,none⟩) (Nat.le_add_right _ _) _)⟩
end CKind
end
section
namespace CKind
open Plain CSat CFix CShape CTensor CConv
theorem rks6_no (H W C H2 W2 C2 na nb K S P O Z Y:Int) (WA:Option Addr) (nW cW:Nat) (BA:Option Addr) (nB cB:Nat) (m1 s1 z1 m2 s2 z2 lo hi:Int) (hs:zae H W C=false) (w:World) :
  Calls Tryz.prog 24 #[.agg #[.int .i64 6,.int .i64 na,.int .i64 nb,.int .i64 K,.int .i64 S,.int .i64 P,.int .i64 O,.int .i8 Z,.int .i8 Y,.slice WA nW cW,.slice BA nB cB,.int .i32 m1,.int .i64 s1,.int .i8 z1,.int .i32 m2,.int .i64 s2,.int .i8 z2,.int .i8 lo,.int .i8 hi],.agg #[.int .i64 H,.int .i64 W,.int .i64 C],.agg #[.int .i64 H2,.int .i64 W2,.int .i64 C2]] w fun r w'=>r=.returned (.tuple #[.agg #[.int .i64 0,.int .i64 0,.int .i64 0],.int .i64 5])∧Below w.heap.size w w':=by
 have HN:=hid (zbe hs)
 clear hs
 go_enter Tryz.func24,Tryz.ntmps24
 go_wp2_with (go_at_call 13;(with_reducible refine (zaf H W C 0 HN.out _).mono ?_);rintro e1 w1 ⟨rfl,hb⟩;obtain⟨hcc,hff⟩:=Kit.bcell hb;have hz:w.heap.size+4≤w1.heap.size:=(by have:=hb.size;simp at this;omega);have hz3:w.heap.size+3 < w1.heap.size:=(by omega);have hz2:w.heap.size+2 < w1.heap.size:=(by omega);have hz1:w.heap.size+1 < w1.heap.size:=(by omega);have hz0:w.heap.size < w1.heap.size:=(by omega);have HB:=hid hb;clear hb)
 refine bodyPost_ret (Kit.zaa rfl _ _ (w.heap.size+3) 0 [.int .i64 0,.int .i64 0,.int .i64 0] _ rfl (Kit.zaj (by go_cell) (by go_cell) (by go_cell)) Tryz.underlying23 rfl (by kernel_rfl)) rfl ?_
 have hB1:Below w.heap.size w w1:=Below.trans (((((Below.refl _ _).alloc (by first | exact le_refl _ | (simp;done) | (simp;omega) | omega) _).alloc (by first | exact le_refl _ | (simp;done) | (simp;omega) | omega) _).alloc (by first | exact le_refl _ | (simp;done) | (simp;omega) | omega) _).alloc (by first | exact le_refl _ | (simp;done) | (simp;omega) | omega) _) (HB.out.mono (by first | exact le_refl _ | (simp;done) | (simp;omega) | omega))
 exact⟨rfl,(((hB1.setCell (p:=⟨w.heap.size+3,0,none⟩) (Nat.le_add_right _ _) _).setCell (p:=⟨w.heap.size+3,1,none⟩) (Nat.le_add_right _ _) _).setCell (p:=⟨w.heap.size+3,2,none⟩) (Nat.le_add_right _ _) _)⟩
theorem rks7_no (H W C H2 W2 C2 na nb K S P O Z Y:Int) (WA:Option Addr) (nW cW:Nat) (BA:Option Addr) (nB cB:Nat) (m1 s1 z1 m2 s2 z2 lo hi:Int) (hs:zae H W C=false) (w:World) :
  Calls Tryz.prog 24 #[.agg #[.int .i64 7,.int .i64 na,.int .i64 nb,.int .i64 K,.int .i64 S,.int .i64 P,.int .i64 O,.int .i8 Z,.int .i8 Y,.slice WA nW cW,.slice BA nB cB,.int .i32 m1,.int .i64 s1,.int .i8 z1,.int .i32 m2,.int .i64 s2,.int .i8 z2,.int .i8 lo,.int .i8 hi],.agg #[.int .i64 H,.int .i64 W,.int .i64 C],.agg #[.int .i64 H2,.int .i64 W2,.int .i64 C2]] w fun r w'=>r=.returned (.tuple #[.agg #[.int .i64 0,.int .i64 0,.int .i64 0],.int .i64 5])∧Below w.heap.size w w':=by
 have HN:=hid (zbe hs)
 clear hs
 go_enter Tryz.func24,Tryz.ntmps24
 go_wp2_with (go_at_call 13;(with_reducible refine (zaf H W C 0 HN.out _).mono ?_);rintro e1 w1 ⟨rfl,hb⟩;obtain⟨hcc,hff⟩:=Kit.bcell hb;have hz:w.heap.size+4≤w1.heap.size:=(by have:=hb.size;simp at this;omega);have hz3:w.heap.size+3 < w1.heap.size:=(by omega);have hz2:w.heap.size+2 < w1.heap.size:=(by omega);have hz1:w.heap.size+1 < w1.heap.size:=(by omega);have hz0:w.heap.size < w1.heap.size:=(by omega);have HB:=hid hb;clear hb)
 refine bodyPost_ret (Kit.zaa rfl _ _ (w.heap.size+3) 0 [.int .i64 0,.int .i64 0,.int .i64 0] _ rfl (Kit.zaj (by go_cell) (by go_cell) (by go_cell)) Tryz.underlying23 rfl (by kernel_rfl)) rfl ?_
 have hB1:Below w.heap.size w w1:=Below.trans (((((Below.refl _ _).alloc (by first | exact le_refl _ | (simp;done) | (simp;omega) | omega) _).alloc (by first | exact le_refl _ | (simp;done) | (simp;omega) | omega) _).alloc (by first | exact le_refl _ | (simp;done) | (simp;omega) | omega) _).alloc (by first | exact le_refl _ | (simp;done) | (simp;omega) | omega) _) (HB.out.mono (by first | exact le_refl _ | (simp;done) | (simp;omega) | omega))
 exact⟨rfl,(((hB1.setCell (p:=⟨w.heap.size+3,0,none⟩) (Nat.le_add_right _ _) _).setCell (p:=⟨w.heap.size+3,1,none⟩) (Nat.le_add_right _ _) _).setCell (p:=⟨w.heap.size+3,2,none⟩) (Nat.le_add_right _ _) _)⟩
theorem rks6_ne (H W C H2 W2 C2 na nb K S P O Z Y:Int) (WA:Option Addr) (nW cW:Nat) (BA:Option Addr) (nB cB:Nat) (m1 s1 z1 m2 s2 z2 lo hi:Int) (hs:zae H W C=true) (hd:(H == H2 && (W == W2 && C == C2))=false) (w:World) :
  Calls Tryz.prog 24 #[.agg #[.int .i64 6,.int .i64 na,.int .i64 nb,.int .i64 K,.int .i64 S,.int .i64 P,.int .i64 O,.int .i8 Z,.int .i8 Y,.slice WA nW cW,.slice BA nB cB,.int .i32 m1,.int .i64 s1,.int .i8 z1,.int .i32 m2,.int .i64 s2,.int .i8 z2,.int .i8 lo,.int .i8 hi],.agg #[.int .i64 H,.int .i64 W,.int .i64 C],.agg #[.int .i64 H2,.int .i64 W2,.int .i64 C2]] w fun r w'=>r=.returned (.tuple #[.agg #[.int .i64 0,.int .i64 0,.int .i64 0],.int .i64 5])∧Below w.heap.size w w':=by
 have HQ:=eqShape H W C H2 W2 C2
 rw [hd] at HQ
 obtain⟨n,hn⟩:∃ n,zam H W C=n:=⟨_,rfl⟩
 have hn0:(n == 0)=false:=by
  rw [← hn]
  obtain⟨q1,q2,q3,q4,q5,q6, -⟩:=zah hs
  have:=zbs q1 q2 q3 q4 q5 q6
  rw [zas hs]
  simp
  omega
 have HN:=hid hn
 clear hn hs hd
 go_enter Tryz.func24,Tryz.ntmps24
 go_wp2_with (go_at_call 13;(with_reducible refine (zaf H W C n HN.out _).mono ?_);rintro e1 w1 ⟨rfl,hb⟩;obtain⟨hcc,hff⟩:=Kit.bcell hb;have hz:w.heap.size+4≤w1.heap.size:=(by have:=hb.size;simp at this;omega);have hz3:w.heap.size+3 < w1.heap.size:=(by omega);have hz2:w.heap.size+2 < w1.heap.size:=(by omega);have hz1:w.heap.size+1 < w1.heap.size:=(by omega);have hz0:w.heap.size < w1.heap.size:=(by omega);have HB:=hid hb;clear hb)
 refine bodyPost_ret (Kit.zaa rfl _ _ (w.heap.size+3) 0 [.int .i64 0,.int .i64 0,.int .i64 0] _ rfl (Kit.zaj (by go_cell) (by go_cell) (by go_cell)) Tryz.underlying23 rfl (by kernel_rfl)) rfl ?_
 have hB1:Below w.heap.size w w1:=Below.trans (((((Below.refl _ _).alloc (by first | exact le_refl _ | (simp;done) | (simp;omega) | omega) _).alloc (by first | exact le_refl _ | (simp;done) | (simp;omega) | omega) _).alloc (by first | exact le_refl _ | (simp;done) | (simp;omega) | omega) _).alloc (by first | exact le_refl _ | (simp;done) | (simp;omega) | omega) _) (HB.out.mono (by first | exact le_refl _ | (simp;done) | (simp;omega) | omega))
 exact⟨rfl,(((hB1.setCell (p:=⟨w.heap.size+3,0,none⟩) (Nat.le_add_right _ _) _).setCell (p:=⟨w.heap.size+3,1,none⟩) (Nat.le_add_right _ _) _).setCell (p:=⟨w.heap.size+3,2,none⟩) (Nat.le_add_right _ _) _)⟩
theorem rks6_eq (H W C H2 W2 C2 na nb K S P O Z Y:Int) (WA:Option Addr) (nW cW:Nat) (BA:Option Addr) (nB cB:Nat) (m1 s1 z1 m2 s2 z2 lo hi:Int) (hs:zae H W C=true) (hd:(H == H2 && (W == W2 && C == C2))=true) (w:World) :
  Calls Tryz.prog 24 #[.agg #[.int .i64 6,.int .i64 na,.int .i64 nb,.int .i64 K,.int .i64 S,.int .i64 P,.int .i64 O,.int .i8 Z,.int .i8 Y,.slice WA nW cW,.slice BA nB cB,.int .i32 m1,.int .i64 s1,.int .i8 z1,.int .i32 m2,.int .i64 s2,.int .i8 z2,.int .i8 lo,.int .i8 hi],.agg #[.int .i64 H,.int .i64 W,.int .i64 C],.agg #[.int .i64 H2,.int .i64 W2,.int .i64 C2]] w fun r w'=>r=.returned (.tuple #[.agg #[.int .i64 H,.int .i64 W,.int .i64 C],.int .i64 0])∧Below w.heap.size w w':=by
 have HQ:=eqShape H W C H2 W2 C2
 rw [hd] at HQ
 obtain⟨n,hn⟩:∃ n,zam H W C=n:=⟨_,rfl⟩
 have hn0:(n == 0)=false:=by
  rw [← hn]
  obtain⟨q1,q2,q3,q4,q5,q6, -⟩:=zah hs
  have:=zbs q1 q2 q3 q4 q5 q6
  rw [zas hs]
  simp
  omega
 have HN:=hid hn
 clear hn hs hd
 go_enter Tryz.func24,Tryz.ntmps24
 go_wp2_with (go_at_call 13;(with_reducible refine (zaf H W C n HN.out _).mono ?_);rintro e1 w1 ⟨rfl,hb⟩;obtain⟨hcc,hff⟩:=Kit.bcell hb;have hz:w.heap.size+4≤w1.heap.size:=(by have:=hb.size;simp at this;omega);have hz3:w.heap.size+3 < w1.heap.size:=(by omega);have hz2:w.heap.size+2 < w1.heap.size:=(by omega);have hz1:w.heap.size+1 < w1.heap.size:=(by omega);have hz0:w.heap.size < w1.heap.size:=(by omega);have HB:=hid hb;clear hb)
 refine bodyPost_ret (Kit.zaa rfl _ _ (w.heap.size+3) 0 [.int .i64 H,.int .i64 W,.int .i64 C] _ rfl (Kit.zaj (by go_cell) (by go_cell) (by go_cell)) Tryz.underlying23 rfl (by kernel_rfl)) rfl ?_
 have hB1:Below w.heap.size w w1:=Below.trans (((((Below.refl _ _).alloc (by first | exact le_refl _ | (simp;done) | (simp;omega) | omega) _).alloc (by first | exact le_refl _ | (simp;done) | (simp;omega) | omega) _).alloc (by first | exact le_refl _ | (simp;done) | (simp;omega) | omega) _).alloc (by first | exact le_refl _ | (simp;done) | (simp;omega) | omega) _) (HB.out.mono (by first | exact le_refl _ | (simp;done) | (simp;omega) | omega))
 exact⟨rfl,(((hB1.setCell (p:=⟨w.heap.size+3,0,none⟩) (Nat.le_add_right _ _) _).setCell (p:=⟨w.heap.size+3,1,none⟩) (Nat.le_add_right _ _) _).setCell (p:=⟨w.heap.size+3,2,none⟩) (Nat.le_add_right _ _) _)⟩
theorem rks7_yes (H W C H2 W2 C2 na nb K S P O Z Y:Int) (WA:Option Addr) (nW cW:Nat) (BA:Option Addr) (nB cB:Nat) (m1 s1 z1 m2 s2 z2 lo hi:Int) (hs:zae H W C=true) (w:World) :
  Calls Tryz.prog 24 #[.agg #[.int .i64 7,.int .i64 na,.int .i64 nb,.int .i64 K,.int .i64 S,.int .i64 P,.int .i64 O,.int .i8 Z,.int .i8 Y,.slice WA nW cW,.slice BA nB cB,.int .i32 m1,.int .i64 s1,.int .i8 z1,.int .i32 m2,.int .i64 s2,.int .i8 z2,.int .i8 lo,.int .i8 hi],.agg #[.int .i64 H,.int .i64 W,.int .i64 C],.agg #[.int .i64 H2,.int .i64 W2,.int .i64 C2]] w fun r w'=>r=.returned (.tuple #[.agg #[.int .i64 H,.int .i64 W,.int .i64 C],.int .i64 0])∧Below w.heap.size w w':=by
 obtain⟨n,hn⟩:∃ n,zam H W C=n:=⟨_,rfl⟩
 have hn0:(n == 0)=false:=by
  rw [← hn]
  obtain⟨q1,q2,q3,q4,q5,q6, -⟩:=zah hs
  have:=zbs q1 q2 q3 q4 q5 q6
  rw [zas hs]
  simp
  omega
 have HN:=hid hn
 clear hn hs
 go_enter Tryz.func24,Tryz.ntmps24
 go_wp2_with (go_at_call 13;(with_reducible refine (zaf H W C n HN.out _).mono ?_);rintro e1 w1 ⟨rfl,hb⟩;obtain⟨hcc,hff⟩:=Kit.bcell hb;have hz:w.heap.size+4≤w1.heap.size:=(by have:=hb.size;simp at this;omega);have hz3:w.heap.size+3 < w1.heap.size:=(by omega);have hz2:w.heap.size+2 < w1.heap.size:=(by omega);have hz1:w.heap.size+1 < w1.heap.size:=(by omega);have hz0:w.heap.size < w1.heap.size:=(by omega);have HB:=hid hb;clear hb)
 refine bodyPost_ret (Kit.zaa rfl _ _ (w.heap.size+3) 0 [.int .i64 H,.int .i64 W,.int .i64 C] _ rfl (Kit.zaj (by go_cell) (by go_cell) (by go_cell)) Tryz.underlying23 rfl (by kernel_rfl)) rfl ?_
 have hB1:Below w.heap.size w w1:=Below.trans (((((Below.refl _ _).alloc (by first | exact le_refl _ | (simp;done) | (simp;omega) | omega) _).alloc (by first | exact le_refl _ | (simp;done) | (simp;omega) | omega) _).alloc (by first | exact le_refl _ | (simp;done) | (simp;omega) | omega) _).alloc (by first | exact le_refl _ | (simp;done) | (simp;omega) | omega) _) (HB.out.mono (by first | exact le_refl _ | (simp;done) | (simp;omega) | omega))
 exact⟨rfl,(((hB1.setCell (p:=⟨w.heap.size+3,0,none⟩) (Nat.le_add_right _ _) _).setCell (p:=⟨w.heap.size+3,1,none⟩) (Nat.le_add_right _ _) _).setCell (p:=⟨w.heap.size+3,2,none⟩) (Nat.le_add_right _ _) _)⟩
end CKind
end
end Go.Proofs.YtoffcaldhojjoaaGreatDoor
