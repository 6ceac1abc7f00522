/- -/
import Derived.Test.YtfgdfignoakkaaaGreatDoorGBT12
open Go.Lib (hid)
open Nat (le_refl lt_of_succ_lt lt_succ_self)
set_option linter.unusedVariables false
set_option linter.unusedSimpArgs false
set_option maxRecDepth 100000
set_option maxHeartbeats 16000000
namespace Go.Proofs.YtfgdfignoakkaaaGreatDoor
namespace CConv
end CConv
namespace CDense
end CDense
namespace CSat
end CSat
namespace CShape
end CShape
namespace CTensor
end CTensor
open Go Go.ChangeShapes Go.WideShapes Go.ChangeAt Go.RowKit Go.Deep
section
namespace CKind
open Plain CSat CShape CTensor CConv CDense CDepth
theorem csh_1 (x:Nd) (hk:x.kd=1) (H W C H2 W2 C2 e u0 u1 u2:Int) (he:convE H W C x.K x.S x.P x.O x.nW x.nB=e) (hv:convS H W C x.K x.S x.P x.O x.nW x.nB=#[.int .i64 u0,.int .i64 u1,.int .i64 u2]) (w:World) :
  Calls Tryz.prog 147 #[.agg x.val,.agg #[.int .i64 H,.int .i64 W,.int .i64 C],.agg #[.int .i64 H2,.int .i64 W2,.int .i64 C2]] w fun r w'=>r=.returned (.tuple #[.agg #[.int .i64 u0,.int .i64 u1,.int .i64 u2],.int .i64 e])∧Below w.heap.size w w':=by
 have HC:Hid (∀ w,Calls Tryz.prog 163 #[.agg #[.int .i64 H,.int .i64 W,.int .i64 C],.agg x.val] w fun r w'=>r=.returned (.tuple #[.agg #[.int .i64 u0,.int .i64 u1,.int .i64 u2],.int .i64 e])∧Below w.heap.size w w'):=hid (fun w=>conv_to H W C (.int .i64 x.kd) (.int .i64 x.na) (.int .i64 x.nb) (.int .i8 x.Y) (.int .i32 x.m1) (.int .i64 x.s1) (.int .i8 x.z1) (.int .i32 x.m2) (.int .i64 x.s2) (.int .i8 x.z2) (.int .i8 x.lo) (.int .i8 x.hi) x.K x.S x.P x.O x.Z x.WA x.BA x.nW x.cW x.nB x.cB e _ he hv w)
 clear he hv
 have HK:=hid hk
 clear hk
 have TN:=hid ((NdAt.new x 54 w).below (B:=w.heap.size+1) (by omega) ((((Below.refl _ _).alloc (by simp) (.cells #[.int .i64 H,.int .i64 W,.int .i64 C] 23)).alloc (by first | exact le_refl _ | (simp;done) | (simp;omega) | omega) (.cells #[.int .i64 H2,.int .i64 W2,.int .i64 C2] 23)).alloc (by first | exact le_refl _ | (simp;done) | (simp;omega) | omega) (.cells #[.int .i64 0,.int .i64 0,.int .i64 0] 23)))
 have HB:Hid (Below w.heap.size w ((((w.alloc (.cells x.val 54)).alloc (.cells #[.int .i64 H,.int .i64 W,.int .i64 C] 23)).alloc (.cells #[.int .i64 H2,.int .i64 W2,.int .i64 C2] 23)).alloc (.cells #[.int .i64 0,.int .i64 0,.int .i64 0] 23))):=hid (((((Below.refl _ _).alloc (by first | exact le_refl _ | (simp;done) | (simp;omega) | omega) _).alloc (by first | exact le_refl _ | (simp;done) | (simp;omega) | omega) _).alloc (by first | exact le_refl _ | (simp;done) | (simp;omega) | omega) _).alloc (by first | exact le_refl _ | (simp;done) | (simp;omega) | omega) _)
 have HS:Hid (((((w.alloc (.cells x.val 54)).alloc (.cells #[.int .i64 H,.int .i64 W,.int .i64 C] 23)).alloc (.cells #[.int .i64 H2,.int .i64 W2,.int .i64 C2] 23)).alloc (.cells #[.int .i64 0,.int .i64 0,.int .i64 0] 23)).heap.size=w.heap.size+4):=hid (by simp)
 go_enter Tryz.func147,Tryz.ntmps147
 go_upto_region 1 with fail
 have k0:((((w.alloc (.cells x.val 54)).alloc (.cells #[.int .i64 H,.int .i64 W,.int .i64 C] 23)).alloc (.cells #[.int .i64 H2,.int .i64 W2,.int .i64 C2] 23)).alloc (.cells #[.int .i64 0,.int .i64 0,.int .i64 0] 23)).cell? ⟨w.heap.size+1,0,none⟩=some (.int .i64 H):=by go_cell
 have k1:((((w.alloc (.cells x.val 54)).alloc (.cells #[.int .i64 H,.int .i64 W,.int .i64 C] 23)).alloc (.cells #[.int .i64 H2,.int .i64 W2,.int .i64 C2] 23)).alloc (.cells #[.int .i64 0,.int .i64 0,.int .i64 0] 23)).cell? ⟨w.heap.size+1,1,none⟩=some (.int .i64 W):=by go_cell
 have k2:((((w.alloc (.cells x.val 54)).alloc (.cells #[.int .i64 H,.int .i64 W,.int .i64 C] 23)).alloc (.cells #[.int .i64 H2,.int .i64 W2,.int .i64 C2] 23)).alloc (.cells #[.int .i64 0,.int .i64 0,.int .i64 0] 23)).cell? ⟨w.heap.size+1,2,none⟩=some (.int .i64 C):=by go_cell
 have k3:((((w.alloc (.cells x.val 54)).alloc (.cells #[.int .i64 H,.int .i64 W,.int .i64 C] 23)).alloc (.cells #[.int .i64 H2,.int .i64 W2,.int .i64 C2] 23)).alloc (.cells #[.int .i64 0,.int .i64 0,.int .i64 0] 23)).cell? ⟨w.heap.size+2,0,none⟩=some (.int .i64 H2):=by go_cell
 have k4:((((w.alloc (.cells x.val 54)).alloc (.cells #[.int .i64 H,.int .i64 W,.int .i64 C] 23)).alloc (.cells #[.int .i64 H2,.int .i64 W2,.int .i64 C2] 23)).alloc (.cells #[.int .i64 0,.int .i64 0,.int .i64 0] 23)).cell? ⟨w.heap.size+2,1,none⟩=some (.int .i64 W2):=by go_cell
 have k5:((((w.alloc (.cells x.val 54)).alloc (.cells #[.int .i64 H,.int .i64 W,.int .i64 C] 23)).alloc (.cells #[.int .i64 H2,.int .i64 W2,.int .i64 C2] 23)).alloc (.cells #[.int .i64 0,.int .i64 0,.int .i64 0] 23)).cell? ⟨w.heap.size+2,2,none⟩=some (.int .i64 C2):=by go_cell
 have k6:((((w.alloc (.cells x.val 54)).alloc (.cells #[.int .i64 H,.int .i64 W,.int .i64 C] 23)).alloc (.cells #[.int .i64 H2,.int .i64 W2,.int .i64 C2] 23)).alloc (.cells #[.int .i64 0,.int .i64 0,.int .i64 0] 23)).cell? ⟨w.heap.size+3,0,none⟩=some (.int .i64 0):=by go_cell
 have k7:((((w.alloc (.cells x.val 54)).alloc (.cells #[.int .i64 H,.int .i64 W,.int .i64 C] 23)).alloc (.cells #[.int .i64 H2,.int .i64 W2,.int .i64 C2] 23)).alloc (.cells #[.int .i64 0,.int .i64 0,.int .i64 0] 23)).cell? ⟨w.heap.size+3,1,none⟩=some (.int .i64 0):=by go_cell
 have k8:((((w.alloc (.cells x.val 54)).alloc (.cells #[.int .i64 H,.int .i64 W,.int .i64 C] 23)).alloc (.cells #[.int .i64 H2,.int .i64 W2,.int .i64 C2] 23)).alloc (.cells #[.int .i64 0,.int .i64 0,.int .i64 0] 23)).cell? ⟨w.heap.size+3,2,none⟩=some (.int .i64 0):=by go_cell
 have g0:((((w.alloc (.cells x.val 54)).alloc (.cells #[.int .i64 H,.int .i64 W,.int .i64 C] 23)).alloc (.cells #[.int .i64 H2,.int .i64 W2,.int .i64 C2] 23)).alloc (.cells #[.int .i64 0,.int .i64 0,.int .i64 0] 23)).frozen? ⟨w.heap.size+3,0,none⟩=false:=by go_cell
 have g1:((((w.alloc (.cells x.val 54)).alloc (.cells #[.int .i64 H,.int .i64 W,.int .i64 C] 23)).alloc (.cells #[.int .i64 H2,.int .i64 W2,.int .i64 C2] 23)).alloc (.cells #[.int .i64 0,.int .i64 0,.int .i64 0] 23)).frozen? ⟨w.heap.size+3,1,none⟩=false:=by go_cell
 have g2:((((w.alloc (.cells x.val 54)).alloc (.cells #[.int .i64 H,.int .i64 W,.int .i64 C] 23)).alloc (.cells #[.int .i64 H2,.int .i64 W2,.int .i64 C2] 23)).alloc (.cells #[.int .i64 0,.int .i64 0,.int .i64 0] 23)).frozen? ⟨w.heap.size+3,2,none⟩=false:=by go_cell
 generalize (((w.alloc (.cells x.val 54)).alloc (.cells #[.int .i64 H,.int .i64 W,.int .i64 C] 23)).alloc (.cells #[.int .i64 H2,.int .i64 W2,.int .i64 C2] 23)).alloc (.cells #[.int .i64 0,.int .i64 0,.int .i64 0] 23)=W0 at *
 have hz3:w.heap.size+3 < W0.heap.size:=by rw [HS.out];omega
 clear HS
 have q0:W0.cell? ⟨w.heap.size,0,none⟩=some (.int .i64 1):=TN.out.at 0 _ (by show some (Value.int .i64 x.kd)=_;rw [HK.out])
 have q3:=TN.out.at 3 (.int .i64 x.K) rfl
 have q4:=TN.out.at 4 (.int .i64 x.S) rfl
 have q5:=TN.out.at 5 (.int .i64 x.P) rfl
 go_wp2_with (first
  | (refine zac rfl _ rfl w.heap.size x rfl TN.out ?_)
  | (go_at_call 163;(with_reducible refine (HC.out _).mono ?_);rintro e1 w1 ⟨rfl,hb⟩;obtain⟨hcc,hff⟩:=Kit.bcell hb;(replace k0:=(hcc (w.heap.size+1) 0 (by omega)).trans k0);(replace k1:=(hcc (w.heap.size+1) 1 (by omega)).trans k1);(replace k2:=(hcc (w.heap.size+1) 2 (by omega)).trans k2);(replace k3:=(hcc (w.heap.size+2) 0 (by omega)).trans k3);(replace k4:=(hcc (w.heap.size+2) 1 (by omega)).trans k4);(replace k5:=(hcc (w.heap.size+2) 2 (by omega)).trans k5);(replace k6:=(hcc (w.heap.size+3) 0 (by omega)).trans k6);(replace k7:=(hcc (w.heap.size+3) 1 (by omega)).trans k7);(replace k8:=(hcc (w.heap.size+3) 2 (by omega)).trans k8);(replace g0:=(hff (w.heap.size+3) 0 hz3).trans g0);(replace g1:=(hff (w.heap.size+3) 1 hz3).trans g1);(replace g2:=(hff (w.heap.size+3) 2 hz3).trans g2);clear hcc hff;(replace hz3:w.heap.size+3 < w1.heap.size:=Nat.lt_of_lt_of_le hz3 hb.size);(replace HB:=hid (HB.out.trans (hb.mono HB.out.size)));clear hb))
 refine bodyPost_ret (Kit.zaa rfl _ _ (w.heap.size+3) 0 [.int .i64 u0,.int .i64 u1,.int .i64 u2] _ rfl (Kit.zak (by go_cell) (by go_cell) (by go_cell)) Tryz.underlying23 rfl (by kernel_rfl)) rfl ?_
 exact⟨rfl,((HB.out.setCell (p:=⟨w.heap.size+3,0,none⟩) (Nat.le_add_right _ _) _).setCell (p:=⟨w.heap.size+3,1,none⟩) (Nat.le_add_right _ _) _).setCell (p:=⟨w.heap.size+3,2,none⟩) (Nat.le_add_right _ _) _⟩
theorem csh_2 (x:Nd) (hk:x.kd=2) (H W C H2 W2 C2 e u0 u1 u2:Int) (he:depthE H W C x.K x.S x.P x.nW x.nB=e) (hv:depthS H W C x.K x.S x.P x.nW x.nB=#[.int .i64 u0,.int .i64 u1,.int .i64 u2]) (w:World) :
  Calls Tryz.prog 147 #[.agg x.val,.agg #[.int .i64 H,.int .i64 W,.int .i64 C],.agg #[.int .i64 H2,.int .i64 W2,.int .i64 C2]] w fun r w'=>r=.returned (.tuple #[.agg #[.int .i64 u0,.int .i64 u1,.int .i64 u2],.int .i64 e])∧Below w.heap.size w w':=by
 have HC:Hid (∀ w,Calls Tryz.prog 164 #[.agg #[.int .i64 H,.int .i64 W,.int .i64 C],.agg x.val] w fun r w'=>r=.returned (.tuple #[.agg #[.int .i64 u0,.int .i64 u1,.int .i64 u2],.int .i64 e])∧Below w.heap.size w w'):=hid (fun w=>dep_to H W C (.int .i64 x.kd) (.int .i64 x.na) (.int .i64 x.nb) (.int .i8 x.Y) (.int .i32 x.m1) (.int .i64 x.s1) (.int .i8 x.z1) (.int .i32 x.m2) (.int .i64 x.s2) (.int .i8 x.z2) (.int .i8 x.lo) (.int .i8 x.hi) x.K x.S x.P x.O x.Z x.WA x.BA x.nW x.cW x.nB x.cB e _ he hv w)
 clear he hv
 have HK:=hid hk
 clear hk
 have TN:=hid ((NdAt.new x 54 w).below (B:=w.heap.size+1) (by omega) ((((Below.refl _ _).alloc (by simp) (.cells #[.int .i64 H,.int .i64 W,.int .i64 C] 23)).alloc (by first | exact le_refl _ | (simp;done) | (simp;omega) | omega) (.cells #[.int .i64 H2,.int .i64 W2,.int .i64 C2] 23)).alloc (by first | exact le_refl _ | (simp;done) | (simp;omega) | omega) (.cells #[.int .i64 0,.int .i64 0,.int .i64 0] 23)))
 have HB:Hid (Below w.heap.size w ((((w.alloc (.cells x.val 54)).alloc (.cells #[.int .i64 H,.int .i64 W,.int .i64 C] 23)).alloc (.cells #[.int .i64 H2,.int .i64 W2,.int .i64 C2] 23)).alloc (.cells #[.int .i64 0,.int .i64 0,.int .i64 0] 23))):=hid (((((Below.refl _ _).alloc (by first | exact le_refl _ | (simp;done) | (simp;omega) | omega) _).alloc (by first | exact le_refl _ | (simp;done) | (simp;omega) | omega) _).alloc (by first | exact le_refl _ | (simp;done) | (simp;omega) | omega) _).alloc (by first | exact le_refl _ | (simp;done) | (simp;omega) | omega) _)
 have HS:Hid (((((w.alloc (.cells x.val 54)).alloc (.cells #[.int .i64 H,.int .i64 W,.int .i64 C] 23)).alloc (.cells #[.int .i64 H2,.int .i64 W2,.int .i64 C2] 23)).alloc (.cells #[.int .i64 0,.int .i64 0,.int .i64 0] 23)).heap.size=w.heap.size+4):=hid (by simp)
 go_enter Tryz.func147,Tryz.ntmps147
 go_upto_region 1 with fail
 have k0:((((w.alloc (.cells x.val 54)).alloc (.cells #[.int .i64 H,.int .i64 W,.int .i64 C] 23)).alloc (.cells #[.int .i64 H2,.int .i64 W2,.int .i64 C2] 23)).alloc (.cells #[.int .i64 0,.int .i64 0,.int .i64 0] 23)).cell? ⟨w.heap.size+1,0,none⟩=some (.int .i64 H):=by go_cell
 have k1:((((w.alloc (.cells x.val 54)).alloc (.cells #[.int .i64 H,.int .i64 W,.int .i64 C] 23)).alloc (.cells #[.int .i64 H2,.int .i64 W2,.int .i64 C2] 23)).alloc (.cells #[.int .i64 0,.int .i64 0,.int .i64 0] 23)).cell? ⟨w.heap.size+1,1,none⟩=some (.int .i64 W):=by go_cell
 have k2:((((w.alloc (.cells x.val 54)).alloc (.cells #[.int .i64 H,.int .i64 W,.int .i64 C] 23)).alloc (.cells #[.int .i64 H2,.int .i64 W2,.int .i64 C2] 23)).alloc (.cells #[.int .i64 0,.int .i64 0,.int .i64 0] 23)).cell? ⟨w.heap.size+1,2,none⟩=some (.int .i64 C):=by go_cell
 have k3:((((w.alloc (.cells x.val 54)).alloc (.cells #[.int .i64 H,.int .i64 W,.int .i64 C] 23)).alloc (.cells #[.int .i64 H2,.int .i64 W2,.int .i64 C2] 23)).alloc (.cells #[.int .i64 0,.int .i64 0,.int .i64 0] 23)).cell? ⟨w.heap.size+2,0,none⟩=some (.int .i64 H2):=by go_cell
 have k4:((((w.alloc (.cells x.val 54)).alloc (.cells #[.int .i64 H,.int .i64 W,.int .i64 C] 23)).alloc (.cells #[.int .i64 H2,.int .i64 W2,.int .i64 C2] 23)).alloc (.cells #[.int .i64 0,.int .i64 0,.int .i64 0] 23)).cell? ⟨w.heap.size+2,1,none⟩=some (.int .i64 W2):=by go_cell
 have k5:((((w.alloc (.cells x.val 54)).alloc (.cells #[.int .i64 H,.int .i64 W,.int .i64 C] 23)).alloc (.cells #[.int .i64 H2,.int .i64 W2,.int .i64 C2] 23)).alloc (.cells #[.int .i64 0,.int .i64 0,.int .i64 0] 23)).cell? ⟨w.heap.size+2,2,none⟩=some (.int .i64 C2):=by go_cell
 have k6:((((w.alloc (.cells x.val 54)).alloc (.cells #[.int .i64 H,.int .i64 W,.int .i64 C] 23)).alloc (.cells #[.int .i64 H2,.int .i64 W2,.int .i64 C2] 23)).alloc (.cells #[.int .i64 0,.int .i64 0,.int .i64 0] 23)).cell? ⟨w.heap.size+3,0,none⟩=some (.int .i64 0):=by go_cell
 have k7:((((w.alloc (.cells x.val 54)).alloc (.cells #[.int .i64 H,.int .i64 W,.int .i64 C] 23)).alloc (.cells #[.int .i64 H2,.int .i64 W2,.int .i64 C2] 23)).alloc (.cells #[.int .i64 0,.int .i64 0,.int .i64 0] 23)).cell? ⟨w.heap.size+3,1,none⟩=some (.int .i64 0):=by go_cell
 have k8:((((w.alloc (.cells x.val 54)).alloc (.cells #[.int .i64 H,.int .i64 W,.int .i64 C] 23)).alloc (.cells #[.int .i64 H2,.int .i64 W2,.int .i64 C2] 23)).alloc (.cells #[.int .i64 0,.int .i64 0,.int .i64 0] 23)).cell? ⟨w.heap.size+3,2,none⟩=some (.int .i64 0):=by go_cell
 have g0:((((w.alloc (.cells x.val 54)).alloc (.cells #[.int .i64 H,.int .i64 W,.int .i64 C] 23)).alloc (.cells #[.int .i64 H2,.int .i64 W2,.int .i64 C2] 23)).alloc (.cells #[.int .i64 0,.int .i64 0,.int .i64 0] 23)).frozen? ⟨w.heap.size+3,0,none⟩=false:=by go_cell
 have g1:((((w.alloc (.cells x.val 54)).alloc (.cells #[.int .i64 H,.int .i64 W,.int .i64 C] 23)).alloc (.cells #[.int .i64 H2,.int .i64 W2,.int .i64 C2] 23)).alloc (.cells #[.int .i64 0,.int .i64 0,.int .i64 0] 23)).frozen? ⟨w.heap.size+3,1,none⟩=false:=by go_cell
 have g2:((((w.alloc (.cells x.val 54)).alloc (.cells #[.int .i64 H,.int .i64 W,.int .i64 C] 23)).alloc (.cells #[.int .i64 H2,.int .i64 W2,.int .i64 C2] 23)).alloc (.cells #[.int .i64 0,.int .i64 0,.int .i64 0] 23)).frozen? ⟨w.heap.size+3,2,none⟩=false:=by go_cell
 generalize (((w.alloc (.cells x.val 54)).alloc (.cells #[.int .i64 H,.int .i64 W,.int .i64 C] 23)).alloc (.cells #[.int .i64 H2,.int .i64 W2,.int .i64 C2] 23)).alloc (.cells #[.int .i64 0,.int .i64 0,.int .i64 0] 23)=W0 at *
 have hz3:w.heap.size+3 < W0.heap.size:=by rw [HS.out];omega
 clear HS
 have q0:W0.cell? ⟨w.heap.size,0,none⟩=some (.int .i64 2):=TN.out.at 0 _ (by show some (Value.int .i64 x.kd)=_;rw [HK.out])
 have q3:=TN.out.at 3 (.int .i64 x.K) rfl
 have q4:=TN.out.at 4 (.int .i64 x.S) rfl
 have q5:=TN.out.at 5 (.int .i64 x.P) rfl
 go_wp2_with (first
  | (refine zac rfl _ rfl w.heap.size x rfl TN.out ?_)
  | (go_at_call 164;(with_reducible refine (HC.out _).mono ?_);rintro e1 w1 ⟨rfl,hb⟩;obtain⟨hcc,hff⟩:=Kit.bcell hb;(replace k0:=(hcc (w.heap.size+1) 0 (by omega)).trans k0);(replace k1:=(hcc (w.heap.size+1) 1 (by omega)).trans k1);(replace k2:=(hcc (w.heap.size+1) 2 (by omega)).trans k2);(replace k3:=(hcc (w.heap.size+2) 0 (by omega)).trans k3);(replace k4:=(hcc (w.heap.size+2) 1 (by omega)).trans k4);(replace k5:=(hcc (w.heap.size+2) 2 (by omega)).trans k5);(replace k6:=(hcc (w.heap.size+3) 0 (by omega)).trans k6);(replace k7:=(hcc (w.heap.size+3) 1 (by omega)).trans k7);(replace k8:=(hcc (w.heap.size+3) 2 (by omega)).trans k8);(replace g0:=(hff (w.heap.size+3) 0 hz3).trans g0);(replace g1:=(hff (w.heap.size+3) 1 hz3).trans g1);(replace g2:=(hff (w.heap.size+3) 2 hz3).trans g2);clear hcc hff;(replace hz3:w.heap.size+3 < w1.heap.size:=Nat.lt_of_lt_of_le hz3 hb.size);(replace HB:=hid (HB.out.trans (hb.mono HB.out.size)));clear hb))
 refine bodyPost_ret (Kit.zaa rfl _ _ (w.heap.size+3) 0 [.int .i64 u0,.int .i64 u1,.int .i64 u2] _ rfl (Kit.zak (by go_cell) (by go_cell) (by go_cell)) Tryz.underlying23 rfl (by kernel_rfl)) rfl ?_
 exact⟨rfl,((HB.out.setCell (p:=⟨w.heap.size+3,0,none⟩) (Nat.le_add_right _ _) _).setCell (p:=⟨w.heap.size+3,1,none⟩) (Nat.le_add_right _ _) _).setCell (p:=⟨w.heap.size+3,2,none⟩) (Nat.le_add_right _ _) _⟩
theorem csh_3 (x:Nd) (hk:x.kd=3) (H W C H2 W2 C2 e u0 u1 u2:Int) (he:denseE H W C x.O x.nW x.nB=e) (hv:denseS H W C x.O x.nW x.nB=#[.int .i64 u0,.int .i64 u1,.int .i64 u2]) (w:World) :
  Calls Tryz.prog 147 #[.agg x.val,.agg #[.int .i64 H,.int .i64 W,.int .i64 C],.agg #[.int .i64 H2,.int .i64 W2,.int .i64 C2]] w fun r w'=>r=.returned (.tuple #[.agg #[.int .i64 u0,.int .i64 u1,.int .i64 u2],.int .i64 e])∧Below w.heap.size w w':=by
 have HC:Hid (∀ w,Calls Tryz.prog 150 #[.agg #[.int .i64 H,.int .i64 W,.int .i64 C],.agg x.val] w fun r w'=>r=.returned (.tuple #[.agg #[.int .i64 u0,.int .i64 u1,.int .i64 u2],.int .i64 e])∧Below w.heap.size w w'):=hid (fun w=>dshape_to H W C (.int .i64 x.kd) (.int .i64 x.na) (.int .i64 x.nb) (.int .i8 x.Y) (.int .i32 x.m1) (.int .i64 x.s1) (.int .i8 x.z1) (.int .i32 x.m2) (.int .i64 x.s2) (.int .i8 x.z2) (.int .i8 x.lo) (.int .i8 x.hi) x.K x.S x.P x.O x.Z x.WA x.BA x.nW x.cW x.nB x.cB e _ he hv w)
 clear he hv
 have HK:=hid hk
 clear hk
 have TN:=hid ((NdAt.new x 54 w).below (B:=w.heap.size+1) (by omega) ((((Below.refl _ _).alloc (by simp) (.cells #[.int .i64 H,.int .i64 W,.int .i64 C] 23)).alloc (by first | exact le_refl _ | (simp;done) | (simp;omega) | omega) (.cells #[.int .i64 H2,.int .i64 W2,.int .i64 C2] 23)).alloc (by first | exact le_refl _ | (simp;done) | (simp;omega) | omega) (.cells #[.int .i64 0,.int .i64 0,.int .i64 0] 23)))
 have HB:Hid (Below w.heap.size w ((((w.alloc (.cells x.val 54)).alloc (.cells #[.int .i64 H,.int .i64 W,.int .i64 C] 23)).alloc (.cells #[.int .i64 H2,.int .i64 W2,.int .i64 C2] 23)).alloc (.cells #[.int .i64 0,.int .i64 0,.int .i64 0] 23))):=hid (((((Below.refl _ _).alloc (by first | exact le_refl _ | (simp;done) | (simp;omega) | omega) _).alloc (by first | exact le_refl _ | (simp;done) | (simp;omega) | omega) _).alloc (by first | exact le_refl _ | (simp;done) | (simp;omega) | omega) _).alloc (by first | exact le_refl _ | (simp;done) | (simp;omega) | omega) _)
 have HS:Hid (((((w.alloc (.cells x.val 54)).alloc (.cells #[.int .i64 H,.int .i64 W,.int .i64 C] 23)).alloc (.cells #[.int .i64 H2,.int .i64 W2,.int .i64 C2] 23)).alloc (.cells #[.int .i64 0,.int .i64 0,.int .i64 0] 23)).heap.size=w.heap.size+4):=hid (by simp)
 go_enter Tryz.func147,Tryz.ntmps147
 go_upto_region 1 with fail
 have k0:((((w.alloc (.cells x.val 54)).alloc (.cells #[.int .i64 H,.int .i64 W,.int .i64 C] 23)).alloc (.cells #[.int .i64 H2,.int .i64 W2,.int .i64 C2] 23)).alloc (.cells #[.int .i64 0,.int .i64 0,.int .i64 0] 23)).cell? ⟨w.heap.size+1,0,none⟩=some (.int .i64 H):=by go_cell
 have k1:((((w.alloc (.cells x.val 54)).alloc (.cells #[.int .i64 H,.int .i64 W,.int .i64 C] 23)).alloc (.cells #[.int .i64 H2,.int .i64 W2,.int .i64 C2] 23)).alloc (.cells #[.int .i64 0,.int .i64 0,.int .i64 0] 23)).cell? ⟨w.heap.size+1,1,none⟩=some (.int .i64 W):=by go_cell
 have k2:((((w.alloc (.cells x.val 54)).alloc (.cells #[.int .i64 H,.int .i64 W,.int .i64 C] 23)).alloc (.cells #[.int .i64 H2,.int .i64 W2,.int .i64 C2] 23)).alloc (.cells #[.int .i64 0,.int .i64 0,.int .i64 0] 23)).cell? ⟨w.heap.size+1,2,none⟩=some (.int .i64 C):=by go_cell
 have k3:((((w.alloc (.cells x.val 54)).alloc (.cells #[.int .i64 H,.int .i64 W,.int .i64 C] 23)).alloc (.cells #[.int .i64 H2,.int .i64 W2,.int .i64 C2] 23)).alloc (.cells #[.int .i64 0,.int .i64 0,.int .i64 0] 23)).cell? ⟨w.heap.size+2,0,none⟩=some (.int .i64 H2):=by go_cell
 have k4:((((w.alloc (.cells x.val 54)).alloc (.cells #[.int .i64 H,.int .i64 W,.int .i64 C] 23)).alloc (.cells #[.int .i64 H2,.int .i64 W2,.int .i64 C2] 23)).alloc (.cells #[.int .i64 0,.int .i64 0,.int .i64 0] 23)).cell? ⟨w.heap.size+2,1,none⟩=some (.int .i64 W2):=by go_cell
 have k5:((((w.alloc (.cells x.val 54)).alloc (.cells #[.int .i64 H,.int .i64 W,.int .i64 C] 23)).alloc (.cells #[.int .i64 H2,.int .i64 W2,.int .i64 C2] 23)).alloc (.cells #[.int .i64 0,.int .i64 0,.int .i64 0] 23)).cell? ⟨w.heap.size+2,2,none⟩=some (.int .i64 C2):=by go_cell
 have k6:((((w.alloc (.cells x.val 54)).alloc (.cells #[.int .i64 H,.int .i64 W,.int .i64 C] 23)).alloc (.cells #[.int .i64 H2,.int .i64 W2,.int .i64 C2] 23)).alloc (.cells #[.int .i64 0,.int .i64 0,.int .i64 0] 23)).cell? ⟨w.heap.size+3,0,none⟩=some (.int .i64 0):=by go_cell
 have k7:((((w.alloc (.cells x.val 54)).alloc (.cells #[.int .i64 H,.int .i64 W,.int .i64 C] 23)).alloc (.cells #[.int .i64 H2,.int .i64 W2,.int .i64 C2] 23)).alloc (.cells #[.int .i64 0,.int .i64 0,.int .i64 0] 23)).cell? ⟨w.heap.size+3,1,none⟩=some (.int .i64 0):=by go_cell
 have k8:((((w.alloc (.cells x.val 54)).alloc (.cells #[.int .i64 H,.int .i64 W,.int .i64 C] 23)).alloc (.cells #[.int .i64 H2,.int .i64 W2,.int .i64 C2] 23)).alloc (.cells #[.int .i64 0,.int .i64 0,.int .i64 0] 23)).cell? ⟨w.heap.size+3,2,none⟩=some (.int .i64 0):=by go_cell
 have g0:((((w.alloc (.cells x.val 54)).alloc (.cells #[.int .i64 H,.int .i64 W,.int .i64 C] 23)).alloc (.cells #[.int .i64 H2,.int .i64 W2,.int .i64 C2] 23)).alloc (.cells #[.int .i64 0,.int .i64 0,.int .i64 0] 23)).frozen? ⟨w.heap.size+3,0,none⟩=false:=by go_cell
 have g1:((((w.alloc (.cells x.val 54)).alloc (.cells #[.int .i64 H,.int .i64 W,.int .i64 C] 23)).alloc (.cells #[.int .i64 H2,.int .i64 W2,.int .i64 C2] 23)).alloc (.cells #[.int .i64 0,.int .i64 0,.int .i64 0] 23)).frozen? ⟨w.heap.size+3,1,none⟩=false:=by go_cell
 have g2:((((w.alloc (.cells x.val 54)).alloc (.cells #[.int .i64 H,.int .i64 W,.int .i64 C] 23)).alloc (.cells #[.int .i64 H2,.int .i64 W2,.int .i64 C2] 23)).alloc (.cells #[.int .i64 0,.int .i64 0,.int .i64 0] 23)).frozen? ⟨w.heap.size+3,2,none⟩=false:=by go_cell
 generalize (((w.alloc (.cells x.val 54)).alloc (.cells #[.int .i64 H,.int .i64 W,.int .i64 C] 23)).alloc (.cells #[.int .i64 H2,.int .i64 W2,.int .i64 C2] 23)).alloc (.cells #[.int .i64 0,.int .i64 0,.int .i64 0] 23)=W0 at *
 have hz3:w.heap.size+3 < W0.heap.size:=by rw [HS.out];omega
 clear HS
 have q0:W0.cell? ⟨w.heap.size,0,none⟩=some (.int .i64 3):=TN.out.at 0 _ (by show some (Value.int .i64 x.kd)=_;rw [HK.out])
 have q3:=TN.out.at 3 (.int .i64 x.K) rfl
 have q4:=TN.out.at 4 (.int .i64 x.S) rfl
 have q5:=TN.out.at 5 (.int .i64 x.P) rfl
 go_wp2_with (first
  | (refine zac rfl _ rfl w.heap.size x rfl TN.out ?_)
  | (go_at_call 150;(with_reducible refine (HC.out _).mono ?_);rintro e1 w1 ⟨rfl,hb⟩;obtain⟨hcc,hff⟩:=Kit.bcell hb;(replace k0:=(hcc (w.heap.size+1) 0 (by omega)).trans k0);(replace k1:=(hcc (w.heap.size+1) 1 (by omega)).trans k1);(replace k2:=(hcc (w.heap.size+1) 2 (by omega)).trans k2);(replace k3:=(hcc (w.heap.size+2) 0 (by omega)).trans k3);(replace k4:=(hcc (w.heap.size+2) 1 (by omega)).trans k4);(replace k5:=(hcc (w.heap.size+2) 2 (by omega)).trans k5);(replace k6:=(hcc (w.heap.size+3) 0 (by omega)).trans k6);(replace k7:=(hcc (w.heap.size+3) 1 (by omega)).trans k7);(replace k8:=(hcc (w.heap.size+3) 2 (by omega)).trans k8);(replace g0:=(hff (w.heap.size+3) 0 hz3).trans g0);(replace g1:=(hff (w.heap.size+3) 1 hz3).trans g1);(replace g2:=(hff (w.heap.size+3) 2 hz3).trans g2);clear hcc hff;(replace hz3:w.heap.size+3 < w1.heap.size:=Nat.lt_of_lt_of_le hz3 hb.size);(replace HB:=hid (HB.out.trans (hb.mono HB.out.size)));clear hb))
 refine bodyPost_ret (Kit.zaa rfl _ _ (w.heap.size+3) 0 [.int .i64 u0,.int .i64 u1,.int .i64 u2] _ rfl (Kit.zak (by go_cell) (by go_cell) (by go_cell)) Tryz.underlying23 rfl (by kernel_rfl)) rfl ?_
 exact⟨rfl,((HB.out.setCell (p:=⟨w.heap.size+3,0,none⟩) (Nat.le_add_right _ _) _).setCell (p:=⟨w.heap.size+3,1,none⟩) (Nat.le_add_right _ _) _).setCell (p:=⟨w.heap.size+3,2,none⟩) (Nat.le_add_right _ _) _⟩
theorem csh_4 (x:Nd) (hk:x.kd=4) (H W C H2 W2 C2 e u0 u1 u2:Int) (he:zaz H W C x.K x.S x.P C=e) (hv:za0 H W C x.K x.S x.P C=#[.int .i64 u0,.int .i64 u1,.int .i64 u2]) (w:World) :
  Calls Tryz.prog 147 #[.agg x.val,.agg #[.int .i64 H,.int .i64 W,.int .i64 C],.agg #[.int .i64 H2,.int .i64 W2,.int .i64 C2]] w fun r w'=>r=.returned (.tuple #[.agg #[.int .i64 u0,.int .i64 u1,.int .i64 u2],.int .i64 e])∧Below w.heap.size w w':=by
 have HC:=hid (fun w=>zba H W C x.K x.S x.P C e _ he hv w)
 clear he hv
 have HK:=hid hk
 clear hk
 have TN:=hid ((NdAt.new x 54 w).below (B:=w.heap.size+1) (by omega) ((((Below.refl _ _).alloc (by simp) (.cells #[.int .i64 H,.int .i64 W,.int .i64 C] 23)).alloc (by first | exact le_refl _ | (simp;done) | (simp;omega) | omega) (.cells #[.int .i64 H2,.int .i64 W2,.int .i64 C2] 23)).alloc (by first | exact le_refl _ | (simp;done) | (simp;omega) | omega) (.cells #[.int .i64 0,.int .i64 0,.int .i64 0] 23)))
 have HB:Hid (Below w.heap.size w ((((w.alloc (.cells x.val 54)).alloc (.cells #[.int .i64 H,.int .i64 W,.int .i64 C] 23)).alloc (.cells #[.int .i64 H2,.int .i64 W2,.int .i64 C2] 23)).alloc (.cells #[.int .i64 0,.int .i64 0,.int .i64 0] 23))):=hid (((((Below.refl _ _).alloc (by first | exact le_refl _ | (simp;done) | (simp;omega) | omega) _).alloc (by first | exact le_refl _ | (simp;done) | (simp;omega) | omega) _).alloc (by first | exact le_refl _ | (simp;done) | (simp;omega) | omega) _).alloc (by first | exact le_refl _ | (simp;done) | (simp;omega) | omega) _)
 have HS:Hid (((((w.alloc (.cells x.val 54)).alloc (.cells #[.int .i64 H,.int .i64 W,.int .i64 C] 23)).alloc (.cells #[.int .i64 H2,.int .i64 W2,.int .i64 C2] 23)).alloc (.cells #[.int .i64 0,.int .i64 0,.int .i64 0] 23)).heap.size=w.heap.size+4):=hid (by simp)
 go_enter Tryz.func147,Tryz.ntmps147
 go_upto_region 1 with fail
 have k0:((((w.alloc (.cells x.val 54)).alloc (.cells #[.int .i64 H,.int .i64 W,.int .i64 C] 23)).alloc (.cells #[.int .i64 H2,.int .i64 W2,.int .i64 C2] 23)).alloc (.cells #[.int .i64 0,.int .i64 0,.int .i64 0] 23)).cell? ⟨w.heap.size+1,0,none⟩=some (.int .i64 H):=by go_cell
 have k1:((((w.alloc (.cells x.val 54)).alloc (.cells #[.int .i64 H,.int .i64 W,.int .i64 C] 23)).alloc (.cells #[.int .i64 H2,.int .i64 W2,.int .i64 C2] 23)).alloc (.cells #[.int .i64 0,.int .i64 0,.int .i64 0] 23)).cell? ⟨w.heap.size+1,1,none⟩=some (.int .i64 W):=by go_cell
 have k2:((((w.alloc (.cells x.val 54)).alloc (.cells #[.int .i64 H,.int .i64 W,.int .i64 C] 23)).alloc (.cells #[.int .i64 H2,.int .i64 W2,.int .i64 C2] 23)).alloc (.cells #[.int .i64 0,.int .i64 0,.int .i64 0] 23)).cell? ⟨w.heap.size+1,2,none⟩=some (.int .i64 C):=by go_cell
 have k3:((((w.alloc (.cells x.val 54)).alloc (.cells #[.int .i64 H,.int .i64 W,.int .i64 C] 23)).alloc (.cells #[.int .i64 H2,.int .i64 W2,.int .i64 C2] 23)).alloc (.cells #[.int .i64 0,.int .i64 0,.int .i64 0] 23)).cell? ⟨w.heap.size+2,0,none⟩=some (.int .i64 H2):=by go_cell
 have k4:((((w.alloc (.cells x.val 54)).alloc (.cells #[.int .i64 H,.int .i64 W,.int .i64 C] 23)).alloc (.cells #[.int .i64 H2,.int .i64 W2,.int .i64 C2] 23)).alloc (.cells #[.int .i64 0,.int .i64 0,.int .i64 0] 23)).cell? ⟨w.heap.size+2,1,none⟩=some (.int .i64 W2):=by go_cell
 have k5:((((w.alloc (.cells x.val 54)).alloc (.cells #[.int .i64 H,.int .i64 W,.int .i64 C] 23)).alloc (.cells #[.int .i64 H2,.int .i64 W2,.int .i64 C2] 23)).alloc (.cells #[.int .i64 0,.int .i64 0,.int .i64 0] 23)).cell? ⟨w.heap.size+2,2,none⟩=some (.int .i64 C2):=by go_cell
 have k6:((((w.alloc (.cells x.val 54)).alloc (.cells #[.int .i64 H,.int .i64 W,.int .i64 C] 23)).alloc (.cells #[.int .i64 H2,.int .i64 W2,.int .i64 C2] 23)).alloc (.cells #[.int .i64 0,.int .i64 0,.int .i64 0] 23)).cell? ⟨w.heap.size+3,0,none⟩=some (.int .i64 0):=by go_cell
 have k7:((((w.alloc (.cells x.val 54)).alloc (.cells #[.int .i64 H,.int .i64 W,.int .i64 C] 23)).alloc (.cells #[.int .i64 H2,.int .i64 W2,.int .i64 C2] 23)).alloc (.cells #[.int .i64 0,.int .i64 0,.int .i64 0] 23)).cell? ⟨w.heap.size+3,1,none⟩=some (.int .i64 0):=by go_cell
 have k8:((((w.alloc (.cells x.val 54)).alloc (.cells #[.int .i64 H,.int .i64 W,.int .i64 C] 23)).alloc (.cells #[.int .i64 H2,.int .i64 W2,.int .i64 C2] 23)).alloc (.cells #[.int .i64 0,.int .i64 0,.int .i64 0] 23)).cell? ⟨w.heap.size+3,2,none⟩=some (.int .i64 0):=by go_cell
 have g0:((((w.alloc (.cells x.val 54)).alloc (.cells #[.int .i64 H,.int .i64 W,.int .i64 C] 23)).alloc (.cells #[.int .i64 H2,.int .i64 W2,.int .i64 C2] 23)).alloc (.cells #[.int .i64 0,.int .i64 0,.int .i64 0] 23)).frozen? ⟨w.heap.size+3,0,none⟩=false:=by go_cell
 have g1:((((w.alloc (.cells x.val 54)).alloc (.cells #[.int .i64 H,.int .i64 W,.int .i64 C] 23)).alloc (.cells #[.int .i64 H2,.int .i64 W2,.int .i64 C2] 23)).alloc (.cells #[.int .i64 0,.int .i64 0,.int .i64 0] 23)).frozen? ⟨w.heap.size+3,1,none⟩=false:=by go_cell
 have g2:((((w.alloc (.cells x.val 54)).alloc (.cells #[.int .i64 H,.int .i64 W,.int .i64 C] 23)).alloc (.cells #[.int .i64 H2,.int .i64 W2,.int .i64 C2] 23)).alloc (.cells #[.int .i64 0,.int .i64 0,.int .i64 0] 23)).frozen? ⟨w.heap.size+3,2,none⟩=false:=by go_cell
 generalize (((w.alloc (.cells x.val 54)).alloc (.cells #[.int .i64 H,.int .i64 W,.int .i64 C] 23)).alloc (.cells #[.int .i64 H2,.int .i64 W2,.int .i64 C2] 23)).alloc (.cells #[.int .i64 0,.int .i64 0,.int .i64 0] 23)=W0 at *
 have hz3:w.heap.size+3 < W0.heap.size:=by rw [HS.out];omega
 clear HS
 have q0:W0.cell? ⟨w.heap.size,0,none⟩=some (.int .i64 4):=TN.out.at 0 _ (by show some (Value.int .i64 x.kd)=_;rw [HK.out])
 have q3:=TN.out.at 3 (.int .i64 x.K) rfl
 have q4:=TN.out.at 4 (.int .i64 x.S) rfl
 have q5:=TN.out.at 5 (.int .i64 x.P) rfl
 go_wp2_with (first
  | (refine zac rfl _ rfl w.heap.size x rfl TN.out ?_)
  | (go_at_call 165;(with_reducible refine (HC.out _).mono ?_);rintro e1 w1 ⟨rfl,hb⟩;obtain⟨hcc,hff⟩:=Kit.bcell hb;(replace k0:=(hcc (w.heap.size+1) 0 (by omega)).trans k0);(replace k1:=(hcc (w.heap.size+1) 1 (by omega)).trans k1);(replace k2:=(hcc (w.heap.size+1) 2 (by omega)).trans k2);(replace k3:=(hcc (w.heap.size+2) 0 (by omega)).trans k3);(replace k4:=(hcc (w.heap.size+2) 1 (by omega)).trans k4);(replace k5:=(hcc (w.heap.size+2) 2 (by omega)).trans k5);(replace k6:=(hcc (w.heap.size+3) 0 (by omega)).trans k6);(replace k7:=(hcc (w.heap.size+3) 1 (by omega)).trans k7);(replace k8:=(hcc (w.heap.size+3) 2 (by omega)).trans k8);(replace g0:=(hff (w.heap.size+3) 0 hz3).trans g0);(replace g1:=(hff (w.heap.size+3) 1 hz3).trans g1);(replace g2:=(hff (w.heap.size+3) 2 hz3).trans g2);clear hcc hff;(replace hz3:w.heap.size+3 < w1.heap.size:=Nat.lt_of_lt_of_le hz3 hb.size);(replace HB:=hid (HB.out.trans (hb.mono HB.out.size)));clear hb))
 refine bodyPost_ret (Kit.zaa rfl _ _ (w.heap.size+3) 0 [.int .i64 u0,.int .i64 u1,.int .i64 u2] _ rfl (Kit.zak (by go_cell) (by go_cell) (by go_cell)) Tryz.underlying23 rfl (by kernel_rfl)) rfl ?_
 exact⟨rfl,((HB.out.setCell (p:=⟨w.heap.size+3,0,none⟩) (Nat.le_add_right _ _) _).setCell (p:=⟨w.heap.size+3,1,none⟩) (Nat.le_add_right _ _) _).setCell (p:=⟨w.heap.size+3,2,none⟩) (Nat.le_add_right _ _) _⟩
theorem csh_5 (x:Nd) (hk:x.kd=5) (H W C H2 W2 C2 e u0 u1 u2:Int) (he:zaz H W C x.K x.S x.P C=e) (hv:za0 H W C x.K x.S x.P C=#[.int .i64 u0,.int .i64 u1,.int .i64 u2]) (w:World) :
  Calls Tryz.prog 147 #[.agg x.val,.agg #[.int .i64 H,.int .i64 W,.int .i64 C],.agg #[.int .i64 H2,.int .i64 W2,.int .i64 C2]] w fun r w'=>r=.returned (.tuple #[.agg #[.int .i64 u0,.int .i64 u1,.int .i64 u2],.int .i64 e])∧Below w.heap.size w w':=by
 have HC:=hid (fun w=>zba H W C x.K x.S x.P C e _ he hv w)
 clear he hv
 have HK:=hid hk
 clear hk
 have TN:=hid ((NdAt.new x 54 w).below (B:=w.heap.size+1) (by omega) ((((Below.refl _ _).alloc (by simp) (.cells #[.int .i64 H,.int .i64 W,.int .i64 C] 23)).alloc (by first | exact le_refl _ | (simp;done) | (simp;omega) | omega) (.cells #[.int .i64 H2,.int .i64 W2,.int .i64 C2] 23)).alloc (by first | exact le_refl _ | (simp;done) | (simp;omega) | omega) (.cells #[.int .i64 0,.int .i64 0,.int .i64 0] 23)))
 have HB:Hid (Below w.heap.size w ((((w.alloc (.cells x.val 54)).alloc (.cells #[.int .i64 H,.int .i64 W,.int .i64 C] 23)).alloc (.cells #[.int .i64 H2,.int .i64 W2,.int .i64 C2] 23)).alloc (.cells #[.int .i64 0,.int .i64 0,.int .i64 0] 23))):=hid (((((Below.refl _ _).alloc (by first | exact le_refl _ | (simp;done) | (simp;omega) | omega) _).alloc (by first | exact le_refl _ | (simp;done) | (simp;omega) | omega) _).alloc (by first | exact le_refl _ | (simp;done) | (simp;omega) | omega) _).alloc (by first | exact le_refl _ | (simp;done) | (simp;omega) | omega) _)
 have HS:Hid (((((w.alloc (.cells x.val 54)).alloc (.cells #[.int .i64 H,.int .i64 W,.int .i64 C] 23)).alloc (.cells #[.int .i64 H2,.int .i64 W2,.int .i64 C2] 23)).alloc (.cells #[.int .i64 0,.int .i64 0,.int .i64 0] 23)).heap.size=w.heap.size+4):=hid (by simp)
 go_enter Tryz.func147,Tryz.ntmps147
 go_upto_region 1 with fail
 have k0:((((w.alloc (.cells x.val 54)).alloc (.cells #[.int .i64 H,.int .i64 W,.int .i64 C] 23)).alloc (.cells #[.int .i64 H2,.int .i64 W2,.int .i64 C2] 23)).alloc (.cells #[.int .i64 0,.int .i64 0,.int .i64 0] 23)).cell? ⟨w.heap.size+1,0,none⟩=some (.int .i64 H):=by go_cell
 have k1:((((w.alloc (.cells x.val 54)).alloc (.cells #[.int .i64 H,.int .i64 W,.int .i64 C] 23)).alloc (.cells #[.int .i64 H2,.int .i64 W2,.int .i64 C2] 23)).alloc (.cells #[.int .i64 0,.int .i64 0,.int .i64 0] 23)).cell? ⟨w.heap.size+1,1,none⟩=some (.int .i64 W):=by go_cell
 have k2:((((w.alloc (.cells x.val 54)).alloc (.cells #[.int .i64 H,.int .i64 W,.int .i64 C] 23)).alloc (.cells #[.int .i64 H2,.int .i64 W2,.int .i64 C2] 23)).alloc (.cells #[.int .i64 0,.int .i64 0,.int .i64 0] 23)).cell? ⟨w.heap.size+1,2,none⟩=some (.int .i64 C):=by go_cell
 have k3:((((w.alloc (.cells x.val 54)).alloc (.cells #[.int .i64 H,.int .i64 W,.int .i64 C] 23)).alloc (.cells #[.int .i64 H2,.int .i64 W2,.int .i64 C2] 23)).alloc (.cells #[.int .i64 0,.int .i64 0,.int .i64 0] 23)).cell? ⟨w.heap.size+2,0,none⟩=some (.int .i64 H2):=by go_cell
 have k4:((((w.alloc (.cells x.val 54)).alloc (.cells #[.int .i64 H,.int .i64 W,.int .i64 C] 23)).alloc (.cells #[.int .i64 H2,.int .i64 W2,.int .i64 C2] 23)).alloc (.cells #[.int .i64 0,.int .i64 0,.int .i64 0] 23)).cell? ⟨w.heap.size+2,1,none⟩=some (.int .i64 W2):=by go_cell
 have k5:((((w.alloc (.cells x.val 54)).alloc (.cells #[.int .i64 H,.int .i64 W,.int .i64 C] 23)).alloc (.cells #[.int .i64 H2,.int .i64 W2,.int .i64 C2] 23)).alloc (.cells #[.int .i64 0,.int .i64 0,.int .i64 0] 23)).cell? ⟨w.heap.size+2,2,none⟩=some (.int .i64 C2):=by go_cell
 have k6:((((w.alloc (.cells x.val 54)).alloc (.cells #[.int .i64 H,.int .i64 W,.int .i64 C] 23)).alloc (.cells #[.int .i64 H2,.int .i64 W2,.int .i64 C2] 23)).alloc (.cells #[.int .i64 0,.int .i64 0,.int .i64 0] 23)).cell? ⟨w.heap.size+3,0,none⟩=some (.int .i64 0):=by go_cell
 have k7:((((w.alloc (.cells x.val 54)).alloc (.cells #[.int .i64 H,.int .i64 W,.int .i64 C] 23)).alloc (.cells #[.int .i64 H2,.int .i64 W2,.int .i64 C2] 23)).alloc (.cells #[.int .i64 0,.int .i64 0,.int .i64 0] 23)).cell? ⟨w.heap.size+3,1,none⟩=some (.int .i64 0):=by go_cell
 have k8:((((w.alloc (.cells x.val 54)).alloc (.cells #[.int .i64 H,.int .i64 W,.int .i64 C] 23)).alloc (.cells #[.int .i64 H2,.int .i64 W2,.int .i64 C2] 23)).alloc (.cells #[.int .i64 0,.int .i64 0,.int .i64 0] 23)).cell? ⟨w.heap.size+3,2,none⟩=some (.int .i64 0):=by go_cell
 have g0:((((w.alloc (.cells x.val 54)).alloc (.cells #[.int .i64 H,.int .i64 W,.int .i64 C] 23)).alloc (.cells #[.int .i64 H2,.int .i64 W2,.int .i64 C2] 23)).alloc (.cells #[.int .i64 0,.int .i64 0,.int .i64 0] 23)).frozen? ⟨w.heap.size+3,0,none⟩=false:=by go_cell
 have g1:((((w.alloc (.cells x.val 54)).alloc (.cells #[.int .i64 H,.int .i64 W,.int .i64 C] 23)).alloc (.cells #[.int .i64 H2,.int .i64 W2,.int .i64 C2] 23)).alloc (.cells #[.int .i64 0,.int .i64 0,.int .i64 0] 23)).frozen? ⟨w.heap.size+3,1,none⟩=false:=by go_cell
 have g2:((((w.alloc (.cells x.val 54)).alloc (.cells #[.int .i64 H,.int .i64 W,.int .i64 C] 23)).alloc (.cells #[.int .i64 H2,.int .i64 W2,.int .i64 C2] 23)).alloc (.cells #[.int .i64 0,.int .i64 0,.int .i64 0] 23)).frozen? ⟨w.heap.size+3,2,none⟩=false:=by go_cell
 generalize (((w.alloc (.cells x.val 54)).alloc (.cells #[.int .i64 H,.int .i64 W,.int .i64 C] 23)).alloc (.cells #[.int .i64 H2,.int .i64 W2,.int .i64 C2] 23)).alloc (.cells #[.int .i64 0,.int .i64 0,.int .i64 0] 23)=W0 at *
 have hz3:w.heap.size+3 < W0.heap.size:=by rw [HS.out];omega
 clear HS
 have q0:W0.cell? ⟨w.heap.size,0,none⟩=some (.int .i64 5):=TN.out.at 0 _ (by show some (Value.int .i64 x.kd)=_;rw [HK.out])
 have q3:=TN.out.at 3 (.int .i64 x.K) rfl
 have q4:=TN.out.at 4 (.int .i64 x.S) rfl
 have q5:=TN.out.at 5 (.int .i64 x.P) rfl
 go_wp2_with (first
  | (refine zac rfl _ rfl w.heap.size x rfl TN.out ?_)
  | (go_at_call 165;(with_reducible refine (HC.out _).mono ?_);rintro e1 w1 ⟨rfl,hb⟩;obtain⟨hcc,hff⟩:=Kit.bcell hb;(replace k0:=(hcc (w.heap.size+1) 0 (by omega)).trans k0);(replace k1:=(hcc (w.heap.size+1) 1 (by omega)).trans k1);(replace k2:=(hcc (w.heap.size+1) 2 (by omega)).trans k2);(replace k3:=(hcc (w.heap.size+2) 0 (by omega)).trans k3);(replace k4:=(hcc (w.heap.size+2) 1 (by omega)).trans k4);(replace k5:=(hcc (w.heap.size+2) 2 (by omega)).trans k5);(replace k6:=(hcc (w.heap.size+3) 0 (by omega)).trans k6);(replace k7:=(hcc (w.heap.size+3) 1 (by omega)).trans k7);(replace k8:=(hcc (w.heap.size+3) 2 (by omega)).trans k8);(replace g0:=(hff (w.heap.size+3) 0 hz3).trans g0);(replace g1:=(hff (w.heap.size+3) 1 hz3).trans g1);(replace g2:=(hff (w.heap.size+3) 2 hz3).trans g2);clear hcc hff;(replace hz3:w.heap.size+3 < w1.heap.size:=Nat.lt_of_lt_of_le hz3 hb.size);(replace HB:=hid (HB.out.trans (hb.mono HB.out.size)));clear hb))
 refine bodyPost_ret (Kit.zaa rfl _ _ (w.heap.size+3) 0 [.int .i64 u0,.int .i64 u1,.int .i64 u2] _ rfl (Kit.zak (by go_cell) (by go_cell) (by go_cell)) Tryz.underlying23 rfl (by kernel_rfl)) rfl ?_
 exact⟨rfl,((HB.out.setCell (p:=⟨w.heap.size+3,0,none⟩) (Nat.le_add_right _ _) _).setCell (p:=⟨w.heap.size+3,1,none⟩) (Nat.le_add_right _ _) _).setCell (p:=⟨w.heap.size+3,2,none⟩) (Nat.le_add_right _ _) _⟩
end CKind
end
end Go.Proofs.YtfgdfignoakkaaaGreatDoor
