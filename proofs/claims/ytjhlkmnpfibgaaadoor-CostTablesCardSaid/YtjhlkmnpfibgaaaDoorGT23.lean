/- -/
import Derived.Test.YtjhlkmnpfibgaaaDoorGT18
open Go.Lib (hid)
open Nat (le_refl lt_of_succ_lt lt_succ_self)
set_option linter.unusedVariables false
set_option linter.unusedSimpArgs false
set_option maxRecDepth 100000
set_option maxHeartbeats 16000000
namespace Go.Proofs.YtjhlkmnpfibgaaaDoor
namespace CConv
end CConv
namespace CSat
end CSat
namespace CTensor
end CTensor
open Go Go.ChangeShapes Go.WideShapes Go.ChangeAt Go.RowKit Go.Deep
section
namespace CKind
open Plain CSat CFix CShape CTensor CConv
theorem rks4 (H W C H2 W2 C2 na nb K S P O Z Y:Int) (WA:Option Addr) (nW cW:Nat) (BA:Option Addr) (nB cB:Nat) (m1 s1 z1 m2 s2 z2 lo hi:Int) (e u0 u1 u2:Int) (he:zas H W C K S P C=e) (hv:zar H W C K S P C=#[.int .i64 u0,.int .i64 u1,.int .i64 u2]) (w:World) :
  Calls Tryd.prog 25 #[.agg #[.int .i64 4,.int .i64 na,.int .i64 nb,.int .i64 K,.int .i64 S,.int .i64 P,.int .i64 O,.int .i8 Z,.int .i8 Y,.slice WA nW cW,.slice BA nB cB,.int .i32 m1,.int .i64 s1,.int .i8 z1,.int .i32 m2,.int .i64 s2,.int .i8 z2,.int .i8 lo,.int .i8 hi],.agg #[.int .i64 H,.int .i64 W,.int .i64 C],.agg #[.int .i64 H2,.int .i64 W2,.int .i64 C2]] w fun r w'=>r=.returned (.tuple #[.agg #[.int .i64 u0,.int .i64 u1,.int .i64 u2],.int .i64 e])∧Below w.heap.size w w':=by
 have HE:=hid he
 have HV:=hid hv
 clear he hv
 go_enter Tryd.func25,Tryd.ntmps25
 go_wp2_with (go_at_call 45;(with_reducible refine (za3 H W C K S P C e _ HE.out HV.out _).mono ?_);rintro e1 w1 ⟨rfl,hb⟩;obtain⟨hcc,hff⟩:=Kit.bcell hb;have hz:w.heap.size+4≤w1.heap.size:=(by have:=hb.size;simp at this;omega);have hz3:w.heap.size+3 < w1.heap.size:=(by omega);have hz2:w.heap.size+2 < w1.heap.size:=(by omega);have hz1:w.heap.size+1 < w1.heap.size:=(by omega);have hz0:w.heap.size < w1.heap.size:=(by omega);have HB:=hid hb;clear hb)
 refine bodyPost_ret (Kit.zab rfl _ _ (w.heap.size+3) 0 [.int .i64 u0,.int .i64 u1,.int .i64 u2] _ rfl (Kit.zaj (by go_cell) (by go_cell) (by go_cell)) Tryd.underlying30 rfl (by kernel_rfl)) rfl ?_
 have hB1:Below w.heap.size w w1:=Below.trans (((((Below.refl _ _).alloc (by first | exact le_refl _ | (simp;done) | (simp;omega) | omega) _).alloc (by first | exact le_refl _ | (simp;done) | (simp;omega) | omega) _).alloc (by first | exact le_refl _ | (simp;done) | (simp;omega) | omega) _).alloc (by first | exact le_refl _ | (simp;done) | (simp;omega) | omega) _) (HB.out.mono (by first | exact le_refl _ | (simp;done) | (simp;omega) | omega))
 exact⟨rfl,(((hB1.setCell (p:=⟨w.heap.size+3,0,none⟩) (Nat.le_add_right _ _) _).setCell (p:=⟨w.heap.size+3,1,none⟩) (Nat.le_add_right _ _) _).setCell (p:=⟨w.heap.size+3,2,none⟩) (Nat.le_add_right _ _) _)⟩
theorem rks5 (H W C H2 W2 C2 na nb K S P O Z Y:Int) (WA:Option Addr) (nW cW:Nat) (BA:Option Addr) (nB cB:Nat) (m1 s1 z1 m2 s2 z2 lo hi:Int) (e u0 u1 u2:Int) (he:zas H W C K S P C=e) (hv:zar H W C K S P C=#[.int .i64 u0,.int .i64 u1,.int .i64 u2]) (w:World) :
  Calls Tryd.prog 25 #[.agg #[.int .i64 5,.int .i64 na,.int .i64 nb,.int .i64 K,.int .i64 S,.int .i64 P,.int .i64 O,.int .i8 Z,.int .i8 Y,.slice WA nW cW,.slice BA nB cB,.int .i32 m1,.int .i64 s1,.int .i8 z1,.int .i32 m2,.int .i64 s2,.int .i8 z2,.int .i8 lo,.int .i8 hi],.agg #[.int .i64 H,.int .i64 W,.int .i64 C],.agg #[.int .i64 H2,.int .i64 W2,.int .i64 C2]] w fun r w'=>r=.returned (.tuple #[.agg #[.int .i64 u0,.int .i64 u1,.int .i64 u2],.int .i64 e])∧Below w.heap.size w w':=by
 have HE:=hid he
 have HV:=hid hv
 clear he hv
 go_enter Tryd.func25,Tryd.ntmps25
 go_wp2_with (go_at_call 45;(with_reducible refine (za3 H W C K S P C e _ HE.out HV.out _).mono ?_);rintro e1 w1 ⟨rfl,hb⟩;obtain⟨hcc,hff⟩:=Kit.bcell hb;have hz:w.heap.size+4≤w1.heap.size:=(by have:=hb.size;simp at this;omega);have hz3:w.heap.size+3 < w1.heap.size:=(by omega);have hz2:w.heap.size+2 < w1.heap.size:=(by omega);have hz1:w.heap.size+1 < w1.heap.size:=(by omega);have hz0:w.heap.size < w1.heap.size:=(by omega);have HB:=hid hb;clear hb)
 refine bodyPost_ret (Kit.zab rfl _ _ (w.heap.size+3) 0 [.int .i64 u0,.int .i64 u1,.int .i64 u2] _ rfl (Kit.zaj (by go_cell) (by go_cell) (by go_cell)) Tryd.underlying30 rfl (by kernel_rfl)) rfl ?_
 have hB1:Below w.heap.size w w1:=Below.trans (((((Below.refl _ _).alloc (by first | exact le_refl _ | (simp;done) | (simp;omega) | omega) _).alloc (by first | exact le_refl _ | (simp;done) | (simp;omega) | omega) _).alloc (by first | exact le_refl _ | (simp;done) | (simp;omega) | omega) _).alloc (by first | exact le_refl _ | (simp;done) | (simp;omega) | omega) _) (HB.out.mono (by first | exact le_refl _ | (simp;done) | (simp;omega) | omega))
 exact⟨rfl,(((hB1.setCell (p:=⟨w.heap.size+3,0,none⟩) (Nat.le_add_right _ _) _).setCell (p:=⟨w.heap.size+3,1,none⟩) (Nat.le_add_right _ _) _).setCell (p:=⟨w.heap.size+3,2,none⟩) (Nat.le_add_right _ _) _)⟩
theorem rks_lo (H W C H2 W2 C2 na nb K S P O Z Y:Int) (WA:Option Addr) (nW cW:Nat) (BA:Option Addr) (nB cB:Nat) (m1 s1 z1 m2 s2 z2 lo hi:Int) (kd:Int) (hk:kd < 1) (w:World) :
  Calls Tryd.prog 25 #[.agg #[.int .i64 kd,.int .i64 na,.int .i64 nb,.int .i64 K,.int .i64 S,.int .i64 P,.int .i64 O,.int .i8 Z,.int .i8 Y,.slice WA nW cW,.slice BA nB cB,.int .i32 m1,.int .i64 s1,.int .i8 z1,.int .i32 m2,.int .i64 s2,.int .i8 z2,.int .i8 lo,.int .i8 hi],.agg #[.int .i64 H,.int .i64 W,.int .i64 C],.agg #[.int .i64 H2,.int .i64 W2,.int .i64 C2]] w fun r w'=>r=.returned (.tuple #[.agg #[.int .i64 0,.int .i64 0,.int .i64 0],.int .i64 6])∧Below w.heap.size w w':=by
 have k1:(kd == 1)=false:=by simp;omega
 have k2:(kd == 2)=false:=by simp;omega
 have k3:(kd == 3)=false:=by simp;omega
 have k4:(kd == 4)=false:=by simp;omega
 have k5:(kd == 5)=false:=by simp;omega
 have kl:decide (kd < 1)=true:=by simpa using hk
 have HK:=hid hk
 clear hk
 go_enter Tryd.func25,Tryd.ntmps25
 go_wp2_with fail
 refine bodyPost_ret (Kit.zab rfl _ _ (w.heap.size+3) 0 [.int .i64 0,.int .i64 0,.int .i64 0] _ rfl (Kit.zaj (by go_cell) (by go_cell) (by go_cell)) Tryd.underlying30 rfl (by kernel_rfl)) rfl ?_
 have hB1:Below w.heap.size w ((((w.alloc (.cells #[.int .i64 kd,.int .i64 na,.int .i64 nb,.int .i64 K,.int .i64 S,.int .i64 P,.int .i64 O,.int .i8 Z,.int .i8 Y,.slice WA nW cW,.slice BA nB cB,.int .i32 m1,.int .i64 s1,.int .i8 z1,.int .i32 m2,.int .i64 s2,.int .i8 z2,.int .i8 lo,.int .i8 hi] 35)).alloc (.cells #[.int .i64 H,.int .i64 W,.int .i64 C] 30)).alloc (.cells #[.int .i64 H2,.int .i64 W2,.int .i64 C2] 30)).alloc (.cells #[.int .i64 0,.int .i64 0,.int .i64 0] 30)):=((((Below.refl _ _).alloc (by first | exact le_refl _ | (simp;done) | (simp;omega) | omega) _).alloc (by first | exact le_refl _ | (simp;done) | (simp;omega) | omega) _).alloc (by first | exact le_refl _ | (simp;done) | (simp;omega) | omega) _).alloc (by first | exact le_refl _ | (simp;done) | (simp;omega) | omega) _
 exact⟨rfl,hB1⟩
theorem rks_hi (H W C H2 W2 C2 na nb K S P O Z Y:Int) (WA:Option Addr) (nW cW:Nat) (BA:Option Addr) (nB cB:Nat) (m1 s1 z1 m2 s2 z2 lo hi:Int) (kd:Int) (hk:9 < kd) (w:World) :
  Calls Tryd.prog 25 #[.agg #[.int .i64 kd,.int .i64 na,.int .i64 nb,.int .i64 K,.int .i64 S,.int .i64 P,.int .i64 O,.int .i8 Z,.int .i8 Y,.slice WA nW cW,.slice BA nB cB,.int .i32 m1,.int .i64 s1,.int .i8 z1,.int .i32 m2,.int .i64 s2,.int .i8 z2,.int .i8 lo,.int .i8 hi],.agg #[.int .i64 H,.int .i64 W,.int .i64 C],.agg #[.int .i64 H2,.int .i64 W2,.int .i64 C2]] w fun r w'=>r=.returned (.tuple #[.agg #[.int .i64 0,.int .i64 0,.int .i64 0],.int .i64 6])∧Below w.heap.size w w':=by
 have k1:(kd == 1)=false:=by simp;omega
 have k2:(kd == 2)=false:=by simp;omega
 have k3:(kd == 3)=false:=by simp;omega
 have k4:(kd == 4)=false:=by simp;omega
 have k5:(kd == 5)=false:=by simp;omega
 have kl:decide (kd < 1)=false:=by simp;omega
 have kh:decide (9 < kd)=true:=by simpa using hk
 have HK:=hid hk
 clear hk
 go_enter Tryd.func25,Tryd.ntmps25
 go_wp2_with fail
 refine bodyPost_ret (Kit.zab rfl _ _ (w.heap.size+3) 0 [.int .i64 0,.int .i64 0,.int .i64 0] _ rfl (Kit.zaj (by go_cell) (by go_cell) (by go_cell)) Tryd.underlying30 rfl (by kernel_rfl)) rfl ?_
 have hB1:Below w.heap.size w ((((w.alloc (.cells #[.int .i64 kd,.int .i64 na,.int .i64 nb,.int .i64 K,.int .i64 S,.int .i64 P,.int .i64 O,.int .i8 Z,.int .i8 Y,.slice WA nW cW,.slice BA nB cB,.int .i32 m1,.int .i64 s1,.int .i8 z1,.int .i32 m2,.int .i64 s2,.int .i8 z2,.int .i8 lo,.int .i8 hi] 35)).alloc (.cells #[.int .i64 H,.int .i64 W,.int .i64 C] 30)).alloc (.cells #[.int .i64 H2,.int .i64 W2,.int .i64 C2] 30)).alloc (.cells #[.int .i64 0,.int .i64 0,.int .i64 0] 30)):=((((Below.refl _ _).alloc (by first | exact le_refl _ | (simp;done) | (simp;omega) | omega) _).alloc (by first | exact le_refl _ | (simp;done) | (simp;omega) | omega) _).alloc (by first | exact le_refl _ | (simp;done) | (simp;omega) | omega) _).alloc (by first | exact le_refl _ | (simp;done) | (simp;omega) | omega) _
 exact⟨rfl,hB1⟩
end CKind
end
end Go.Proofs.YtjhlkmnpfibgaaaDoor
