/- -/
import Derived.Test.YtfgdfignoakkaaaGreatDoorGBT12
open Go.Lib (hid)
open Nat (le_refl lt_of_succ_lt lt_succ_self)
set_option linter.unusedVariables false
set_option linter.unusedSimpArgs false
set_option maxRecDepth 100000
set_option maxHeartbeats 16000000
namespace Go.Proofs.YtfgdfignoakkaaaGreatDoor
namespace CConv
end CConv
namespace CDense
end CDense
namespace CSat
end CSat
namespace CShape
end CShape
namespace CTensor
end CTensor
open Go Go.ChangeShapes Go.WideShapes Go.ChangeAt Go.RowKit Go.Deep
section
namespace CKind
open Plain CSat CShape CTensor CConv CDense CDepth
theorem csh_8 (x:Nd) (hk:x.kd=8) (H W C H2 W2 C2 e u0 u1 u2:Int) (he:(if zae H W C=false then (5:Int) else if x.P < 0∨4 < x.P then 2 else if zae (H+2 * x.P) (W+2 * x.P) C=false then 5 else 0)=e) (hv:(if e≠0 then (#[.int .i64 0,.int .i64 0,.int .i64 0]:Array Value) else #[.int .i64 (H+2 * x.P),.int .i64 (W+2 * x.P),.int .i64 C])=#[.int .i64 u0,.int .i64 u1,.int .i64 u2]) (w:World) :
  Calls Tryz.prog 147 #[.agg x.val,.agg #[.int .i64 H,.int .i64 W,.int .i64 C],.agg #[.int .i64 H2,.int .i64 W2,.int .i64 C2]] w fun r w'=>r=.returned (.tuple #[.agg #[.int .i64 u0,.int .i64 u1,.int .i64 u2],.int .i64 e])∧Below w.heap.size w w':=by
 have HC:=hid (fun w=>widened_to H W C x.P e u0 u1 u2 he hv w)
 clear he hv
 have HK:=hid hk
 clear hk
 have TN:=hid ((NdAt.new x 54 w).below (B:=w.heap.size+1) (by omega) ((((Below.refl _ _).alloc (by simp) (.cells #[.int .i64 H,.int .i64 W,.int .i64 C] 23)).alloc (by first | exact le_refl _ | (simp;done) | (simp;omega) | omega) (.cells #[.int .i64 H2,.int .i64 W2,.int .i64 C2] 23)).alloc (by first | exact le_refl _ | (simp;done) | (simp;omega) | omega) (.cells #[.int .i64 0,.int .i64 0,.int .i64 0] 23)))
 have HB:Hid (Below w.heap.size w ((((w.alloc (.cells x.val 54)).alloc (.cells #[.int .i64 H,.int .i64 W,.int .i64 C] 23)).alloc (.cells #[.int .i64 H2,.int .i64 W2,.int .i64 C2] 23)).alloc (.cells #[.int .i64 0,.int .i64 0,.int .i64 0] 23))):=hid (((((Below.refl _ _).alloc (by first | exact le_refl _ | (simp;done) | (simp;omega) | omega) _).alloc (by first | exact le_refl _ | (simp;done) | (simp;omega) | omega) _).alloc (by first | exact le_refl _ | (simp;done) | (simp;omega) | omega) _).alloc (by first | exact le_refl _ | (simp;done) | (simp;omega) | omega) _)
 have HS:Hid (((((w.alloc (.cells x.val 54)).alloc (.cells #[.int .i64 H,.int .i64 W,.int .i64 C] 23)).alloc (.cells #[.int .i64 H2,.int .i64 W2,.int .i64 C2] 23)).alloc (.cells #[.int .i64 0,.int .i64 0,.int .i64 0] 23)).heap.size=w.heap.size+4):=hid (by simp)
 go_enter Tryz.func147,Tryz.ntmps147
 go_upto_region 1 with fail
 have k0:((((w.alloc (.cells x.val 54)).alloc (.cells #[.int .i64 H,.int .i64 W,.int .i64 C] 23)).alloc (.cells #[.int .i64 H2,.int .i64 W2,.int .i64 C2] 23)).alloc (.cells #[.int .i64 0,.int .i64 0,.int .i64 0] 23)).cell? ⟨w.heap.size+1,0,none⟩=some (.int .i64 H):=by go_cell
 have k1:((((w.alloc (.cells x.val 54)).alloc (.cells #[.int .i64 H,.int .i64 W,.int .i64 C] 23)).alloc (.cells #[.int .i64 H2,.int .i64 W2,.int .i64 C2] 23)).alloc (.cells #[.int .i64 0,.int .i64 0,.int .i64 0] 23)).cell? ⟨w.heap.size+1,1,none⟩=some (.int .i64 W):=by go_cell
 have k2:((((w.alloc (.cells x.val 54)).alloc (.cells #[.int .i64 H,.int .i64 W,.int .i64 C] 23)).alloc (.cells #[.int .i64 H2,.int .i64 W2,.int .i64 C2] 23)).alloc (.cells #[.int .i64 0,.int .i64 0,.int .i64 0] 23)).cell? ⟨w.heap.size+1,2,none⟩=some (.int .i64 C):=by go_cell
 have k3:((((w.alloc (.cells x.val 54)).alloc (.cells #[.int .i64 H,.int .i64 W,.int .i64 C] 23)).alloc (.cells #[.int .i64 H2,.int .i64 W2,.int .i64 C2] 23)).alloc (.cells #[.int .i64 0,.int .i64 0,.int .i64 0] 23)).cell? ⟨w.heap.size+2,0,none⟩=some (.int .i64 H2):=by go_cell
 have k4:((((w.alloc (.cells x.val 54)).alloc (.cells #[.int .i64 H,.int .i64 W,.int .i64 C] 23)).alloc (.cells #[.int .i64 H2,.int .i64 W2,.int .i64 C2] 23)).alloc (.cells #[.int .i64 0,.int .i64 0,.int .i64 0] 23)).cell? ⟨w.heap.size+2,1,none⟩=some (.int .i64 W2):=by go_cell
 have k5:((((w.alloc (.cells x.val 54)).alloc (.cells #[.int .i64 H,.int .i64 W,.int .i64 C] 23)).alloc (.cells #[.int .i64 H2,.int .i64 W2,.int .i64 C2] 23)).alloc (.cells #[.int .i64 0,.int .i64 0,.int .i64 0] 23)).cell? ⟨w.heap.size+2,2,none⟩=some (.int .i64 C2):=by go_cell
 have k6:((((w.alloc (.cells x.val 54)).alloc (.cells #[.int .i64 H,.int .i64 W,.int .i64 C] 23)).alloc (.cells #[.int .i64 H2,.int .i64 W2,.int .i64 C2] 23)).alloc (.cells #[.int .i64 0,.int .i64 0,.int .i64 0] 23)).cell? ⟨w.heap.size+3,0,none⟩=some (.int .i64 0):=by go_cell
 have k7:((((w.alloc (.cells x.val 54)).alloc (.cells #[.int .i64 H,.int .i64 W,.int .i64 C] 23)).alloc (.cells #[.int .i64 H2,.int .i64 W2,.int .i64 C2] 23)).alloc (.cells #[.int .i64 0,.int .i64 0,.int .i64 0] 23)).cell? ⟨w.heap.size+3,1,none⟩=some (.int .i64 0):=by go_cell
 have k8:((((w.alloc (.cells x.val 54)).alloc (.cells #[.int .i64 H,.int .i64 W,.int .i64 C] 23)).alloc (.cells #[.int .i64 H2,.int .i64 W2,.int .i64 C2] 23)).alloc (.cells #[.int .i64 0,.int .i64 0,.int .i64 0] 23)).cell? ⟨w.heap.size+3,2,none⟩=some (.int .i64 0):=by go_cell
 have g0:((((w.alloc (.cells x.val 54)).alloc (.cells #[.int .i64 H,.int .i64 W,.int .i64 C] 23)).alloc (.cells #[.int .i64 H2,.int .i64 W2,.int .i64 C2] 23)).alloc (.cells #[.int .i64 0,.int .i64 0,.int .i64 0] 23)).frozen? ⟨w.heap.size+3,0,none⟩=false:=by go_cell
 have g1:((((w.alloc (.cells x.val 54)).alloc (.cells #[.int .i64 H,.int .i64 W,.int .i64 C] 23)).alloc (.cells #[.int .i64 H2,.int .i64 W2,.int .i64 C2] 23)).alloc (.cells #[.int .i64 0,.int .i64 0,.int .i64 0] 23)).frozen? ⟨w.heap.size+3,1,none⟩=false:=by go_cell
 have g2:((((w.alloc (.cells x.val 54)).alloc (.cells #[.int .i64 H,.int .i64 W,.int .i64 C] 23)).alloc (.cells #[.int .i64 H2,.int .i64 W2,.int .i64 C2] 23)).alloc (.cells #[.int .i64 0,.int .i64 0,.int .i64 0] 23)).frozen? ⟨w.heap.size+3,2,none⟩=false:=by go_cell
 generalize (((w.alloc (.cells x.val 54)).alloc (.cells #[.int .i64 H,.int .i64 W,.int .i64 C] 23)).alloc (.cells #[.int .i64 H2,.int .i64 W2,.int .i64 C2] 23)).alloc (.cells #[.int .i64 0,.int .i64 0,.int .i64 0] 23)=W0 at *
 have hz3:w.heap.size+3 < W0.heap.size:=by rw [HS.out];omega
 clear HS
 have q0:W0.cell? ⟨w.heap.size,0,none⟩=some (.int .i64 8):=TN.out.at 0 _ (by show some (Value.int .i64 x.kd)=_;rw [HK.out])
 have q3:=TN.out.at 3 (.int .i64 x.K) rfl
 have q4:=TN.out.at 4 (.int .i64 x.S) rfl
 have q5:=TN.out.at 5 (.int .i64 x.P) rfl
 go_wp2_with (first
  | (refine zac rfl _ rfl w.heap.size x rfl TN.out ?_)
  | (go_at_call 167;(with_reducible refine (HC.out _).mono ?_);rintro e1 w1 ⟨rfl,hb⟩;obtain⟨hcc,hff⟩:=Kit.bcell hb;(replace k0:=(hcc (w.heap.size+1) 0 (by omega)).trans k0);(replace k1:=(hcc (w.heap.size+1) 1 (by omega)).trans k1);(replace k2:=(hcc (w.heap.size+1) 2 (by omega)).trans k2);(replace k3:=(hcc (w.heap.size+2) 0 (by omega)).trans k3);(replace k4:=(hcc (w.heap.size+2) 1 (by omega)).trans k4);(replace k5:=(hcc (w.heap.size+2) 2 (by omega)).trans k5);(replace k6:=(hcc (w.heap.size+3) 0 (by omega)).trans k6);(replace k7:=(hcc (w.heap.size+3) 1 (by omega)).trans k7);(replace k8:=(hcc (w.heap.size+3) 2 (by omega)).trans k8);(replace g0:=(hff (w.heap.size+3) 0 hz3).trans g0);(replace g1:=(hff (w.heap.size+3) 1 hz3).trans g1);(replace g2:=(hff (w.heap.size+3) 2 hz3).trans g2);clear hcc hff;(replace hz3:w.heap.size+3 < w1.heap.size:=Nat.lt_of_lt_of_le hz3 hb.size);(replace HB:=hid (HB.out.trans (hb.mono HB.out.size)));clear hb))
 refine bodyPost_ret (Kit.zaa rfl _ _ (w.heap.size+3) 0 [.int .i64 u0,.int .i64 u1,.int .i64 u2] _ rfl (Kit.zak (by go_cell) (by go_cell) (by go_cell)) Tryz.underlying23 rfl (by kernel_rfl)) rfl ?_
 exact⟨rfl,((HB.out.setCell (p:=⟨w.heap.size+3,0,none⟩) (Nat.le_add_right _ _) _).setCell (p:=⟨w.heap.size+3,1,none⟩) (Nat.le_add_right _ _) _).setCell (p:=⟨w.heap.size+3,2,none⟩) (Nat.le_add_right _ _) _⟩
theorem csh_9 (x:Nd) (hk:x.kd=9) (H W C H2 W2 C2 e u0 u1 u2:Int) (N:Int) (hN:zas H W C=N) (he:(if zae 1 1 N=true then (0:Int) else 5)=e) (hv:(if zae 1 1 N=true then (#[.int .i64 1,.int .i64 1,.int .i64 N]:Array Value) else #[.int .i64 0,.int .i64 0,.int .i64 0])=#[.int .i64 u0,.int .i64 u1,.int .i64 u2]) (w:World) :
  Calls Tryz.prog 147 #[.agg x.val,.agg #[.int .i64 H,.int .i64 W,.int .i64 C],.agg #[.int .i64 H2,.int .i64 W2,.int .i64 C2]] w fun r w'=>r=.returned (.tuple #[.agg #[.int .i64 u0,.int .i64 u1,.int .i64 u2],.int .i64 e])∧Below w.heap.size w w':=by
 have HE:=hid (fun w=>elems_to H W C N hN w)
 have HC:=hid (fun w=>valid_to 1 1 N e u0 u1 u2 _ rfl he hv w)
 clear he hv hN
 have HK:=hid hk
 clear hk
 have TN:=hid ((NdAt.new x 54 w).below (B:=w.heap.size+1) (by omega) ((((Below.refl _ _).alloc (by simp) (.cells #[.int .i64 H,.int .i64 W,.int .i64 C] 23)).alloc (by first | exact le_refl _ | (simp;done) | (simp;omega) | omega) (.cells #[.int .i64 H2,.int .i64 W2,.int .i64 C2] 23)).alloc (by first | exact le_refl _ | (simp;done) | (simp;omega) | omega) (.cells #[.int .i64 0,.int .i64 0,.int .i64 0] 23)))
 have HB:Hid (Below w.heap.size w ((((w.alloc (.cells x.val 54)).alloc (.cells #[.int .i64 H,.int .i64 W,.int .i64 C] 23)).alloc (.cells #[.int .i64 H2,.int .i64 W2,.int .i64 C2] 23)).alloc (.cells #[.int .i64 0,.int .i64 0,.int .i64 0] 23))):=hid (((((Below.refl _ _).alloc (by first | exact le_refl _ | (simp;done) | (simp;omega) | omega) _).alloc (by first | exact le_refl _ | (simp;done) | (simp;omega) | omega) _).alloc (by first | exact le_refl _ | (simp;done) | (simp;omega) | omega) _).alloc (by first | exact le_refl _ | (simp;done) | (simp;omega) | omega) _)
 have HS:Hid (((((w.alloc (.cells x.val 54)).alloc (.cells #[.int .i64 H,.int .i64 W,.int .i64 C] 23)).alloc (.cells #[.int .i64 H2,.int .i64 W2,.int .i64 C2] 23)).alloc (.cells #[.int .i64 0,.int .i64 0,.int .i64 0] 23)).heap.size=w.heap.size+4):=hid (by simp)
 go_enter Tryz.func147,Tryz.ntmps147
 go_upto_region 1 with fail
 have k0:((((w.alloc (.cells x.val 54)).alloc (.cells #[.int .i64 H,.int .i64 W,.int .i64 C] 23)).alloc (.cells #[.int .i64 H2,.int .i64 W2,.int .i64 C2] 23)).alloc (.cells #[.int .i64 0,.int .i64 0,.int .i64 0] 23)).cell? ⟨w.heap.size+1,0,none⟩=some (.int .i64 H):=by go_cell
 have k1:((((w.alloc (.cells x.val 54)).alloc (.cells #[.int .i64 H,.int .i64 W,.int .i64 C] 23)).alloc (.cells #[.int .i64 H2,.int .i64 W2,.int .i64 C2] 23)).alloc (.cells #[.int .i64 0,.int .i64 0,.int .i64 0] 23)).cell? ⟨w.heap.size+1,1,none⟩=some (.int .i64 W):=by go_cell
 have k2:((((w.alloc (.cells x.val 54)).alloc (.cells #[.int .i64 H,.int .i64 W,.int .i64 C] 23)).alloc (.cells #[.int .i64 H2,.int .i64 W2,.int .i64 C2] 23)).alloc (.cells #[.int .i64 0,.int .i64 0,.int .i64 0] 23)).cell? ⟨w.heap.size+1,2,none⟩=some (.int .i64 C):=by go_cell
 have k3:((((w.alloc (.cells x.val 54)).alloc (.cells #[.int .i64 H,.int .i64 W,.int .i64 C] 23)).alloc (.cells #[.int .i64 H2,.int .i64 W2,.int .i64 C2] 23)).alloc (.cells #[.int .i64 0,.int .i64 0,.int .i64 0] 23)).cell? ⟨w.heap.size+2,0,none⟩=some (.int .i64 H2):=by go_cell
 have k4:((((w.alloc (.cells x.val 54)).alloc (.cells #[.int .i64 H,.int .i64 W,.int .i64 C] 23)).alloc (.cells #[.int .i64 H2,.int .i64 W2,.int .i64 C2] 23)).alloc (.cells #[.int .i64 0,.int .i64 0,.int .i64 0] 23)).cell? ⟨w.heap.size+2,1,none⟩=some (.int .i64 W2):=by go_cell
 have k5:((((w.alloc (.cells x.val 54)).alloc (.cells #[.int .i64 H,.int .i64 W,.int .i64 C] 23)).alloc (.cells #[.int .i64 H2,.int .i64 W2,.int .i64 C2] 23)).alloc (.cells #[.int .i64 0,.int .i64 0,.int .i64 0] 23)).cell? ⟨w.heap.size+2,2,none⟩=some (.int .i64 C2):=by go_cell
 have k6:((((w.alloc (.cells x.val 54)).alloc (.cells #[.int .i64 H,.int .i64 W,.int .i64 C] 23)).alloc (.cells #[.int .i64 H2,.int .i64 W2,.int .i64 C2] 23)).alloc (.cells #[.int .i64 0,.int .i64 0,.int .i64 0] 23)).cell? ⟨w.heap.size+3,0,none⟩=some (.int .i64 0):=by go_cell
 have k7:((((w.alloc (.cells x.val 54)).alloc (.cells #[.int .i64 H,.int .i64 W,.int .i64 C] 23)).alloc (.cells #[.int .i64 H2,.int .i64 W2,.int .i64 C2] 23)).alloc (.cells #[.int .i64 0,.int .i64 0,.int .i64 0] 23)).cell? ⟨w.heap.size+3,1,none⟩=some (.int .i64 0):=by go_cell
 have k8:((((w.alloc (.cells x.val 54)).alloc (.cells #[.int .i64 H,.int .i64 W,.int .i64 C] 23)).alloc (.cells #[.int .i64 H2,.int .i64 W2,.int .i64 C2] 23)).alloc (.cells #[.int .i64 0,.int .i64 0,.int .i64 0] 23)).cell? ⟨w.heap.size+3,2,none⟩=some (.int .i64 0):=by go_cell
 have g0:((((w.alloc (.cells x.val 54)).alloc (.cells #[.int .i64 H,.int .i64 W,.int .i64 C] 23)).alloc (.cells #[.int .i64 H2,.int .i64 W2,.int .i64 C2] 23)).alloc (.cells #[.int .i64 0,.int .i64 0,.int .i64 0] 23)).frozen? ⟨w.heap.size+3,0,none⟩=false:=by go_cell
 have g1:((((w.alloc (.cells x.val 54)).alloc (.cells #[.int .i64 H,.int .i64 W,.int .i64 C] 23)).alloc (.cells #[.int .i64 H2,.int .i64 W2,.int .i64 C2] 23)).alloc (.cells #[.int .i64 0,.int .i64 0,.int .i64 0] 23)).frozen? ⟨w.heap.size+3,1,none⟩=false:=by go_cell
 have g2:((((w.alloc (.cells x.val 54)).alloc (.cells #[.int .i64 H,.int .i64 W,.int .i64 C] 23)).alloc (.cells #[.int .i64 H2,.int .i64 W2,.int .i64 C2] 23)).alloc (.cells #[.int .i64 0,.int .i64 0,.int .i64 0] 23)).frozen? ⟨w.heap.size+3,2,none⟩=false:=by go_cell
 generalize (((w.alloc (.cells x.val 54)).alloc (.cells #[.int .i64 H,.int .i64 W,.int .i64 C] 23)).alloc (.cells #[.int .i64 H2,.int .i64 W2,.int .i64 C2] 23)).alloc (.cells #[.int .i64 0,.int .i64 0,.int .i64 0] 23)=W0 at *
 have hz3:w.heap.size+3 < W0.heap.size:=by rw [HS.out];omega
 clear HS
 have q0:W0.cell? ⟨w.heap.size,0,none⟩=some (.int .i64 9):=TN.out.at 0 _ (by show some (Value.int .i64 x.kd)=_;rw [HK.out])
 have q3:=TN.out.at 3 (.int .i64 x.K) rfl
 have q4:=TN.out.at 4 (.int .i64 x.S) rfl
 have q5:=TN.out.at 5 (.int .i64 x.P) rfl
 go_wp2_with (first
  | (refine zac rfl _ rfl w.heap.size x rfl TN.out ?_)
  | (go_at_call 97;(with_reducible refine (HE.out _).mono ?_);rintro e1 w1 ⟨rfl,hb⟩;obtain⟨hcc,hff⟩:=Kit.bcell hb;(replace k0:=(hcc (w.heap.size+1) 0 (by omega)).trans k0);(replace k1:=(hcc (w.heap.size+1) 1 (by omega)).trans k1);(replace k2:=(hcc (w.heap.size+1) 2 (by omega)).trans k2);(replace k3:=(hcc (w.heap.size+2) 0 (by omega)).trans k3);(replace k4:=(hcc (w.heap.size+2) 1 (by omega)).trans k4);(replace k5:=(hcc (w.heap.size+2) 2 (by omega)).trans k5);(replace k6:=(hcc (w.heap.size+3) 0 (by omega)).trans k6);(replace k7:=(hcc (w.heap.size+3) 1 (by omega)).trans k7);(replace k8:=(hcc (w.heap.size+3) 2 (by omega)).trans k8);(replace g0:=(hff (w.heap.size+3) 0 hz3).trans g0);(replace g1:=(hff (w.heap.size+3) 1 hz3).trans g1);(replace g2:=(hff (w.heap.size+3) 2 hz3).trans g2);clear hcc hff;(replace hz3:w.heap.size+3 < w1.heap.size:=Nat.lt_of_lt_of_le hz3 hb.size);(replace HB:=hid (HB.out.trans (hb.mono HB.out.size)));clear hb)
  | (go_at_call 166;(with_reducible refine (HC.out _).mono ?_);rintro e1 w2 ⟨rfl,hb⟩;obtain⟨hcc,hff⟩:=Kit.bcell hb;(replace k0:=(hcc (w.heap.size+1) 0 (by omega)).trans k0);(replace k1:=(hcc (w.heap.size+1) 1 (by omega)).trans k1);(replace k2:=(hcc (w.heap.size+1) 2 (by omega)).trans k2);(replace k3:=(hcc (w.heap.size+2) 0 (by omega)).trans k3);(replace k4:=(hcc (w.heap.size+2) 1 (by omega)).trans k4);(replace k5:=(hcc (w.heap.size+2) 2 (by omega)).trans k5);(replace k6:=(hcc (w.heap.size+3) 0 (by omega)).trans k6);(replace k7:=(hcc (w.heap.size+3) 1 (by omega)).trans k7);(replace k8:=(hcc (w.heap.size+3) 2 (by omega)).trans k8);(replace g0:=(hff (w.heap.size+3) 0 hz3).trans g0);(replace g1:=(hff (w.heap.size+3) 1 hz3).trans g1);(replace g2:=(hff (w.heap.size+3) 2 hz3).trans g2);clear hcc hff;(replace hz3:w.heap.size+3 < w2.heap.size:=Nat.lt_of_lt_of_le hz3 hb.size);(replace HB:=hid (HB.out.trans (hb.mono HB.out.size)));clear hb))
 refine bodyPost_ret (Kit.zaa rfl _ _ (w.heap.size+3) 0 [.int .i64 u0,.int .i64 u1,.int .i64 u2] _ rfl (Kit.zak (by go_cell) (by go_cell) (by go_cell)) Tryz.underlying23 rfl (by kernel_rfl)) rfl ?_
 exact⟨rfl,((HB.out.setCell (p:=⟨w.heap.size+3,0,none⟩) (Nat.le_add_right _ _) _).setCell (p:=⟨w.heap.size+3,1,none⟩) (Nat.le_add_right _ _) _).setCell (p:=⟨w.heap.size+3,2,none⟩) (Nat.le_add_right _ _) _⟩
theorem csh_0 (x:Nd) (hk:x.kd < 1∨9 < x.kd) (H W C H2 W2 C2 e u0 u1 u2:Int) (he:(6:Int)=e) (hv:(#[.int .i64 0,.int .i64 0,.int .i64 0]:Array Value)=#[.int .i64 u0,.int .i64 u1,.int .i64 u2]) (w:World) :
  Calls Tryz.prog 147 #[.agg x.val,.agg #[.int .i64 H,.int .i64 W,.int .i64 C],.agg #[.int .i64 H2,.int .i64 W2,.int .i64 C2]] w fun r w'=>r=.returned (.tuple #[.agg #[.int .i64 u0,.int .i64 u1,.int .i64 u2],.int .i64 e])∧Below w.heap.size w w':=by
 obtain⟨rfl,rfl,rfl⟩:=three_inj hv
 subst he
 clear hv
 have HK:=hid hk
 clear hk
 have TN:=hid ((NdAt.new x 54 w).below (B:=w.heap.size+1) (by omega) ((((Below.refl _ _).alloc (by simp) (.cells #[.int .i64 H,.int .i64 W,.int .i64 C] 23)).alloc (by first | exact le_refl _ | (simp;done) | (simp;omega) | omega) (.cells #[.int .i64 H2,.int .i64 W2,.int .i64 C2] 23)).alloc (by first | exact le_refl _ | (simp;done) | (simp;omega) | omega) (.cells #[.int .i64 0,.int .i64 0,.int .i64 0] 23)))
 have HB:Hid (Below w.heap.size w ((((w.alloc (.cells x.val 54)).alloc (.cells #[.int .i64 H,.int .i64 W,.int .i64 C] 23)).alloc (.cells #[.int .i64 H2,.int .i64 W2,.int .i64 C2] 23)).alloc (.cells #[.int .i64 0,.int .i64 0,.int .i64 0] 23))):=hid (((((Below.refl _ _).alloc (by first | exact le_refl _ | (simp;done) | (simp;omega) | omega) _).alloc (by first | exact le_refl _ | (simp;done) | (simp;omega) | omega) _).alloc (by first | exact le_refl _ | (simp;done) | (simp;omega) | omega) _).alloc (by first | exact le_refl _ | (simp;done) | (simp;omega) | omega) _)
 have HS:Hid (((((w.alloc (.cells x.val 54)).alloc (.cells #[.int .i64 H,.int .i64 W,.int .i64 C] 23)).alloc (.cells #[.int .i64 H2,.int .i64 W2,.int .i64 C2] 23)).alloc (.cells #[.int .i64 0,.int .i64 0,.int .i64 0] 23)).heap.size=w.heap.size+4):=hid (by simp)
 go_enter Tryz.func147,Tryz.ntmps147
 go_upto_region 1 with fail
 have k0:((((w.alloc (.cells x.val 54)).alloc (.cells #[.int .i64 H,.int .i64 W,.int .i64 C] 23)).alloc (.cells #[.int .i64 H2,.int .i64 W2,.int .i64 C2] 23)).alloc (.cells #[.int .i64 0,.int .i64 0,.int .i64 0] 23)).cell? ⟨w.heap.size+1,0,none⟩=some (.int .i64 H):=by go_cell
 have k1:((((w.alloc (.cells x.val 54)).alloc (.cells #[.int .i64 H,.int .i64 W,.int .i64 C] 23)).alloc (.cells #[.int .i64 H2,.int .i64 W2,.int .i64 C2] 23)).alloc (.cells #[.int .i64 0,.int .i64 0,.int .i64 0] 23)).cell? ⟨w.heap.size+1,1,none⟩=some (.int .i64 W):=by go_cell
 have k2:((((w.alloc (.cells x.val 54)).alloc (.cells #[.int .i64 H,.int .i64 W,.int .i64 C] 23)).alloc (.cells #[.int .i64 H2,.int .i64 W2,.int .i64 C2] 23)).alloc (.cells #[.int .i64 0,.int .i64 0,.int .i64 0] 23)).cell? ⟨w.heap.size+1,2,none⟩=some (.int .i64 C):=by go_cell
 have k3:((((w.alloc (.cells x.val 54)).alloc (.cells #[.int .i64 H,.int .i64 W,.int .i64 C] 23)).alloc (.cells #[.int .i64 H2,.int .i64 W2,.int .i64 C2] 23)).alloc (.cells #[.int .i64 0,.int .i64 0,.int .i64 0] 23)).cell? ⟨w.heap.size+2,0,none⟩=some (.int .i64 H2):=by go_cell
 have k4:((((w.alloc (.cells x.val 54)).alloc (.cells #[.int .i64 H,.int .i64 W,.int .i64 C] 23)).alloc (.cells #[.int .i64 H2,.int .i64 W2,.int .i64 C2] 23)).alloc (.cells #[.int .i64 0,.int .i64 0,.int .i64 0] 23)).cell? ⟨w.heap.size+2,1,none⟩=some (.int .i64 W2):=by go_cell
 have k5:((((w.alloc (.cells x.val 54)).alloc (.cells #[.int .i64 H,.int .i64 W,.int .i64 C] 23)).alloc (.cells #[.int .i64 H2,.int .i64 W2,.int .i64 C2] 23)).alloc (.cells #[.int .i64 0,.int .i64 0,.int .i64 0] 23)).cell? ⟨w.heap.size+2,2,none⟩=some (.int .i64 C2):=by go_cell
 have k6:((((w.alloc (.cells x.val 54)).alloc (.cells #[.int .i64 H,.int .i64 W,.int .i64 C] 23)).alloc (.cells #[.int .i64 H2,.int .i64 W2,.int .i64 C2] 23)).alloc (.cells #[.int .i64 0,.int .i64 0,.int .i64 0] 23)).cell? ⟨w.heap.size+3,0,none⟩=some (.int .i64 0):=by go_cell
 have k7:((((w.alloc (.cells x.val 54)).alloc (.cells #[.int .i64 H,.int .i64 W,.int .i64 C] 23)).alloc (.cells #[.int .i64 H2,.int .i64 W2,.int .i64 C2] 23)).alloc (.cells #[.int .i64 0,.int .i64 0,.int .i64 0] 23)).cell? ⟨w.heap.size+3,1,none⟩=some (.int .i64 0):=by go_cell
 have k8:((((w.alloc (.cells x.val 54)).alloc (.cells #[.int .i64 H,.int .i64 W,.int .i64 C] 23)).alloc (.cells #[.int .i64 H2,.int .i64 W2,.int .i64 C2] 23)).alloc (.cells #[.int .i64 0,.int .i64 0,.int .i64 0] 23)).cell? ⟨w.heap.size+3,2,none⟩=some (.int .i64 0):=by go_cell
 have g0:((((w.alloc (.cells x.val 54)).alloc (.cells #[.int .i64 H,.int .i64 W,.int .i64 C] 23)).alloc (.cells #[.int .i64 H2,.int .i64 W2,.int .i64 C2] 23)).alloc (.cells #[.int .i64 0,.int .i64 0,.int .i64 0] 23)).frozen? ⟨w.heap.size+3,0,none⟩=false:=by go_cell
 have g1:((((w.alloc (.cells x.val 54)).alloc (.cells #[.int .i64 H,.int .i64 W,.int .i64 C] 23)).alloc (.cells #[.int .i64 H2,.int .i64 W2,.int .i64 C2] 23)).alloc (.cells #[.int .i64 0,.int .i64 0,.int .i64 0] 23)).frozen? ⟨w.heap.size+3,1,none⟩=false:=by go_cell
 have g2:((((w.alloc (.cells x.val 54)).alloc (.cells #[.int .i64 H,.int .i64 W,.int .i64 C] 23)).alloc (.cells #[.int .i64 H2,.int .i64 W2,.int .i64 C2] 23)).alloc (.cells #[.int .i64 0,.int .i64 0,.int .i64 0] 23)).frozen? ⟨w.heap.size+3,2,none⟩=false:=by go_cell
 generalize (((w.alloc (.cells x.val 54)).alloc (.cells #[.int .i64 H,.int .i64 W,.int .i64 C] 23)).alloc (.cells #[.int .i64 H2,.int .i64 W2,.int .i64 C2] 23)).alloc (.cells #[.int .i64 0,.int .i64 0,.int .i64 0] 23)=W0 at *
 have hz3:w.heap.size+3 < W0.heap.size:=by rw [HS.out];omega
 clear HS
 have q0:=TN.out.at 0 (.int .i64 x.kd) rfl
 have q3:=TN.out.at 3 (.int .i64 x.K) rfl
 have q4:=TN.out.at 4 (.int .i64 x.S) rfl
 have q5:=TN.out.at 5 (.int .i64 x.P) rfl
 have hk:=HK.out
 have ks:∀ j:Int,1≤j→j≤9→(x.kd == j)=false∧(x.kd != j)=true∧¬ x.kd=j:=fun j h1 h2=>by
  have:x.kd≠j:=by omega
  simp [this]
 obtain⟨e1,f1,g1x⟩:=ks 1 (by omega) (by omega)
 obtain⟨e2,f2,g2x⟩:=ks 2 (by omega) (by omega)
 obtain⟨e3,f3,g3x⟩:=ks 3 (by omega) (by omega)
 obtain⟨e4,f4,g4x⟩:=ks 4 (by omega) (by omega)
 obtain⟨e5,f5,g5x⟩:=ks 5 (by omega) (by omega)
 obtain⟨e6,f6,g6x⟩:=ks 6 (by omega) (by omega)
 obtain⟨e7,f7,g7x⟩:=ks 7 (by omega) (by omega)
 obtain⟨e8,f8,g8x⟩:=ks 8 (by omega) (by omega)
 obtain⟨e9,f9,g9x⟩:=ks 9 (by omega) (by omega)
 clear ks
 go_wp2_with (first
  | (refine zac rfl _ rfl w.heap.size x rfl TN.out ?_))
 refine bodyPost_ret (Kit.zaa rfl _ _ (w.heap.size+3) 0 [.int .i64 0,.int .i64 0,.int .i64 0] _ rfl (Kit.zak (by go_cell) (by go_cell) (by go_cell)) Tryz.underlying23 rfl (by kernel_rfl)) rfl ?_
 exact⟨rfl,((HB.out.setCell (p:=⟨w.heap.size+3,0,none⟩) (Nat.le_add_right _ _) _).setCell (p:=⟨w.heap.size+3,1,none⟩) (Nat.le_add_right _ _) _).setCell (p:=⟨w.heap.size+3,2,none⟩) (Nat.le_add_right _ _) _⟩
end CKind
end
end Go.Proofs.YtfgdfignoakkaaaGreatDoor
