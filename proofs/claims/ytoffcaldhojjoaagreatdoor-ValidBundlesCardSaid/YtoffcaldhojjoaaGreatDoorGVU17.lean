/- -/
import Derived.Test.YtoffcaldhojjoaaGreatDoorGVU15
open Go.Lib (hid)
open Nat (le_refl lt_of_succ_lt lt_succ_self)
set_option linter.unusedVariables false
set_option linter.unusedSimpArgs false
set_option maxRecDepth 100000
set_option maxHeartbeats 16000000
namespace Go.Proofs.YtoffcaldhojjoaaGreatDoor
namespace CConv
end CConv
namespace CFix
end CFix
namespace CSat
end CSat
namespace CTensor
end CTensor
open Go Go.ChangeShapes Go.WideShapes Go.ChangeAt Go.RowKit Go.Deep
section
namespace CKind
open Plain CSat CFix CShape CTensor CConv
theorem rks8_no (H W C H2 W2 C2 na nb K S P O Z Y:Int) (WA:Option Addr) (nW cW:Nat) (BA:Option Addr) (nB cB:Nat) (m1 s1 z1 m2 s2 z2 lo hi:Int) (hs:zae H W C=false) (w:World) :
  Calls Tryz.prog 24 #[.agg #[.int .i64 8,.int .i64 na,.int .i64 nb,.int .i64 K,.int .i64 S,.int .i64 P,.int .i64 O,.int .i8 Z,.int .i8 Y,.slice WA nW cW,.slice BA nB cB,.int .i32 m1,.int .i64 s1,.int .i8 z1,.int .i32 m2,.int .i64 s2,.int .i8 z2,.int .i8 lo,.int .i8 hi],.agg #[.int .i64 H,.int .i64 W,.int .i64 C],.agg #[.int .i64 H2,.int .i64 W2,.int .i64 C2]] w fun r w'=>r=.returned (.tuple #[.agg #[.int .i64 0,.int .i64 0,.int .i64 0],.int .i64 5])∧Below w.heap.size w w':=by
 have HN:=hid (zbe hs)
 clear hs
 have HB:Hid (Below w.heap.size w ((((w.alloc (.cells #[.int .i64 8,.int .i64 na,.int .i64 nb,.int .i64 K,.int .i64 S,.int .i64 P,.int .i64 O,.int .i8 Z,.int .i8 Y,.slice WA nW cW,.slice BA nB cB,.int .i32 m1,.int .i64 s1,.int .i8 z1,.int .i32 m2,.int .i64 s2,.int .i8 z2,.int .i8 lo,.int .i8 hi] 61)).alloc (.cells #[.int .i64 H,.int .i64 W,.int .i64 C] 23)).alloc (.cells #[.int .i64 H2,.int .i64 W2,.int .i64 C2] 23)).alloc (.cells #[.int .i64 0,.int .i64 0,.int .i64 0] 23))):=hid (((((Below.refl _ _).alloc (by first | exact le_refl _ | (simp;done) | (simp;omega) | omega) _).alloc (by first | exact le_refl _ | (simp;done) | (simp;omega) | omega) _).alloc (by first | exact le_refl _ | (simp;done) | (simp;omega) | omega) _).alloc (by first | exact le_refl _ | (simp;done) | (simp;omega) | omega) _)
 go_enter Tryz.func24,Tryz.ntmps24
 go_wp2_with (go_at_call 13;(with_reducible refine (zaf H W C 0 HN.out _).mono ?_);rintro e1 w1 ⟨rfl,hb⟩;obtain⟨hcc,hff⟩:=Kit.bcell hb;have hz3:w.heap.size+3 < w1.heap.size:=(by have:=hb.size;(try simp at this);omega);have hz2:w.heap.size+2 < w1.heap.size:=(by omega);have hz1:w.heap.size+1 < w1.heap.size:=(by omega);have hz0:w.heap.size < w1.heap.size:=(by omega);(first | (replace HB:=hid (HB.out.trans (hb.mono HB.out.size))) | (replace HB:=hid ((HB.out.alloc HB.out.size _).trans (hb.mono (by have:=HB.out.size;simp;omega)))));clear hb)
 refine bodyPost_ret (Kit.zaa rfl _ _ (w.heap.size+3) 0 [.int .i64 0,.int .i64 0,.int .i64 0] _ rfl (Kit.zaj (by go_cell) (by go_cell) (by go_cell)) Tryz.underlying23 rfl (by kernel_rfl)) rfl ?_
 exact⟨rfl,(((HB.out.setCell (p:=⟨w.heap.size+3,0,none⟩) (Nat.le_add_right _ _) _).setCell (p:=⟨w.heap.size+3,1,none⟩) (Nat.le_add_right _ _) _).setCell (p:=⟨w.heap.size+3,2,none⟩) (Nat.le_add_right _ _) _)⟩
theorem rks9_no (H W C H2 W2 C2 na nb K S P O Z Y:Int) (WA:Option Addr) (nW cW:Nat) (BA:Option Addr) (nB cB:Nat) (m1 s1 z1 m2 s2 z2 lo hi:Int) (hs:zae H W C=false) (w:World) :
  Calls Tryz.prog 24 #[.agg #[.int .i64 9,.int .i64 na,.int .i64 nb,.int .i64 K,.int .i64 S,.int .i64 P,.int .i64 O,.int .i8 Z,.int .i8 Y,.slice WA nW cW,.slice BA nB cB,.int .i32 m1,.int .i64 s1,.int .i8 z1,.int .i32 m2,.int .i64 s2,.int .i8 z2,.int .i8 lo,.int .i8 hi],.agg #[.int .i64 H,.int .i64 W,.int .i64 C],.agg #[.int .i64 H2,.int .i64 W2,.int .i64 C2]] w fun r w'=>r=.returned (.tuple #[.agg #[.int .i64 0,.int .i64 0,.int .i64 0],.int .i64 5])∧Below w.heap.size w w':=by
 have HN:=hid (zbe hs)
 clear hs
 have HB:Hid (Below w.heap.size w ((((w.alloc (.cells #[.int .i64 9,.int .i64 na,.int .i64 nb,.int .i64 K,.int .i64 S,.int .i64 P,.int .i64 O,.int .i8 Z,.int .i8 Y,.slice WA nW cW,.slice BA nB cB,.int .i32 m1,.int .i64 s1,.int .i8 z1,.int .i32 m2,.int .i64 s2,.int .i8 z2,.int .i8 lo,.int .i8 hi] 61)).alloc (.cells #[.int .i64 H,.int .i64 W,.int .i64 C] 23)).alloc (.cells #[.int .i64 H2,.int .i64 W2,.int .i64 C2] 23)).alloc (.cells #[.int .i64 0,.int .i64 0,.int .i64 0] 23))):=hid (((((Below.refl _ _).alloc (by first | exact le_refl _ | (simp;done) | (simp;omega) | omega) _).alloc (by first | exact le_refl _ | (simp;done) | (simp;omega) | omega) _).alloc (by first | exact le_refl _ | (simp;done) | (simp;omega) | omega) _).alloc (by first | exact le_refl _ | (simp;done) | (simp;omega) | omega) _)
 go_enter Tryz.func24,Tryz.ntmps24
 go_wp2_with (go_at_call 13;(with_reducible refine (zaf H W C 0 HN.out _).mono ?_);rintro e1 w1 ⟨rfl,hb⟩;obtain⟨hcc,hff⟩:=Kit.bcell hb;have hz3:w.heap.size+3 < w1.heap.size:=(by have:=hb.size;(try simp at this);omega);have hz2:w.heap.size+2 < w1.heap.size:=(by omega);have hz1:w.heap.size+1 < w1.heap.size:=(by omega);have hz0:w.heap.size < w1.heap.size:=(by omega);(first | (replace HB:=hid (HB.out.trans (hb.mono HB.out.size))) | (replace HB:=hid ((HB.out.alloc HB.out.size _).trans (hb.mono (by have:=HB.out.size;simp;omega)))));clear hb)
 refine bodyPost_ret (Kit.zaa rfl _ _ (w.heap.size+3) 0 [.int .i64 0,.int .i64 0,.int .i64 0] _ rfl (Kit.zaj (by go_cell) (by go_cell) (by go_cell)) Tryz.underlying23 rfl (by kernel_rfl)) rfl ?_
 exact⟨rfl,(((HB.out.setCell (p:=⟨w.heap.size+3,0,none⟩) (Nat.le_add_right _ _) _).setCell (p:=⟨w.heap.size+3,1,none⟩) (Nat.le_add_right _ _) _).setCell (p:=⟨w.heap.size+3,2,none⟩) (Nat.le_add_right _ _) _)⟩
theorem rks9_yes (H W C H2 W2 C2 na nb K S P O Z Y:Int) (WA:Option Addr) (nW cW:Nat) (BA:Option Addr) (nB cB:Nat) (m1 s1 z1 m2 s2 z2 lo hi:Int) (n:Int) (hs:zae H W C=true) (hn:zam H W C=n) (w:World) :
  Calls Tryz.prog 24 #[.agg #[.int .i64 9,.int .i64 na,.int .i64 nb,.int .i64 K,.int .i64 S,.int .i64 P,.int .i64 O,.int .i8 Z,.int .i8 Y,.slice WA nW cW,.slice BA nB cB,.int .i32 m1,.int .i64 s1,.int .i8 z1,.int .i32 m2,.int .i64 s2,.int .i8 z2,.int .i8 lo,.int .i8 hi],.agg #[.int .i64 H,.int .i64 W,.int .i64 C],.agg #[.int .i64 H2,.int .i64 W2,.int .i64 C2]] w fun r w'=>r=.returned (.tuple #[.agg #[.int .i64 1,.int .i64 1,.int .i64 n],.int .i64 0])∧Below w.heap.size w w':=by
 obtain⟨q1,q2,q3,q4,q5,q6, -⟩:=zah hs
 have hn0:(n == 0)=false:=by
  rw [← hn]
  have:=zbs q1 q2 q3 q4 q5 q6
  rw [zas hs]
  simp
  omega
 have HN:=hid hn
 clear hn hs
 have HB:Hid (Below w.heap.size w ((((w.alloc (.cells #[.int .i64 9,.int .i64 na,.int .i64 nb,.int .i64 K,.int .i64 S,.int .i64 P,.int .i64 O,.int .i8 Z,.int .i8 Y,.slice WA nW cW,.slice BA nB cB,.int .i32 m1,.int .i64 s1,.int .i8 z1,.int .i32 m2,.int .i64 s2,.int .i8 z2,.int .i8 lo,.int .i8 hi] 61)).alloc (.cells #[.int .i64 H,.int .i64 W,.int .i64 C] 23)).alloc (.cells #[.int .i64 H2,.int .i64 W2,.int .i64 C2] 23)).alloc (.cells #[.int .i64 0,.int .i64 0,.int .i64 0] 23))):=hid (((((Below.refl _ _).alloc (by first | exact le_refl _ | (simp;done) | (simp;omega) | omega) _).alloc (by first | exact le_refl _ | (simp;done) | (simp;omega) | omega) _).alloc (by first | exact le_refl _ | (simp;done) | (simp;omega) | omega) _).alloc (by first | exact le_refl _ | (simp;done) | (simp;omega) | omega) _)
 go_enter Tryz.func24,Tryz.ntmps24
 go_wp2_with (go_at_call 13;(with_reducible refine (zaf H W C n HN.out _).mono ?_);rintro e1 w1 ⟨rfl,hb⟩;obtain⟨hcc,hff⟩:=Kit.bcell hb;have hz3:w.heap.size+3 < w1.heap.size:=(by have:=hb.size;(try simp at this);omega);have hz2:w.heap.size+2 < w1.heap.size:=(by omega);have hz1:w.heap.size+1 < w1.heap.size:=(by omega);have hz0:w.heap.size < w1.heap.size:=(by omega);(first | (replace HB:=hid (HB.out.trans (hb.mono HB.out.size))) | (replace HB:=hid ((HB.out.alloc HB.out.size _).trans (hb.mono (by have:=HB.out.size;simp;omega)))));clear hb)
 refine bodyPost_ret (Kit.zaa rfl _ _ (w.heap.size+3) 0 [.int .i64 1,.int .i64 1,.int .i64 n] _ rfl (Kit.zaj (by go_cell) (by go_cell) (by go_cell)) Tryz.underlying23 rfl (by kernel_rfl)) rfl ?_
 exact⟨rfl,(((HB.out.setCell (p:=⟨w.heap.size+3,0,none⟩) (Nat.le_add_right _ _) _).setCell (p:=⟨w.heap.size+3,1,none⟩) (Nat.le_add_right _ _) _).setCell (p:=⟨w.heap.size+3,2,none⟩) (Nat.le_add_right _ _) _)⟩
theorem rks8_lo (H W C H2 W2 C2 na nb K S P O Z Y:Int) (WA:Option Addr) (nW cW:Nat) (BA:Option Addr) (nB cB:Nat) (m1 s1 z1 m2 s2 z2 lo hi:Int) (hs:zae H W C=true) (hp:P < 0) (w:World) :
  Calls Tryz.prog 24 #[.agg #[.int .i64 8,.int .i64 na,.int .i64 nb,.int .i64 K,.int .i64 S,.int .i64 P,.int .i64 O,.int .i8 Z,.int .i8 Y,.slice WA nW cW,.slice BA nB cB,.int .i32 m1,.int .i64 s1,.int .i8 z1,.int .i32 m2,.int .i64 s2,.int .i8 z2,.int .i8 lo,.int .i8 hi],.agg #[.int .i64 H,.int .i64 W,.int .i64 C],.agg #[.int .i64 H2,.int .i64 W2,.int .i64 C2]] w fun r w'=>r=.returned (.tuple #[.agg #[.int .i64 0,.int .i64 0,.int .i64 0],.int .i64 2])∧Below w.heap.size w w':=by
 obtain⟨n,hn⟩:∃ n,zam H W C=n:=⟨_,rfl⟩
 obtain⟨q1,q2,q3,q4,q5,q6, -⟩:=zah hs
 have hn0:(n == 0)=false:=by
  rw [← hn]
  have:=zbs q1 q2 q3 q4 q5 q6
  rw [zas hs]
  simp
  omega
 have HN:=hid hn
 clear hn hs
 have kp:decide (P < 0)=true:=by simpa using hp
 have HP:=hid hp
 clear hp q1 q2 q3 q4 q5 q6
 have HB:Hid (Below w.heap.size w ((((w.alloc (.cells #[.int .i64 8,.int .i64 na,.int .i64 nb,.int .i64 K,.int .i64 S,.int .i64 P,.int .i64 O,.int .i8 Z,.int .i8 Y,.slice WA nW cW,.slice BA nB cB,.int .i32 m1,.int .i64 s1,.int .i8 z1,.int .i32 m2,.int .i64 s2,.int .i8 z2,.int .i8 lo,.int .i8 hi] 61)).alloc (.cells #[.int .i64 H,.int .i64 W,.int .i64 C] 23)).alloc (.cells #[.int .i64 H2,.int .i64 W2,.int .i64 C2] 23)).alloc (.cells #[.int .i64 0,.int .i64 0,.int .i64 0] 23))):=hid (((((Below.refl _ _).alloc (by first | exact le_refl _ | (simp;done) | (simp;omega) | omega) _).alloc (by first | exact le_refl _ | (simp;done) | (simp;omega) | omega) _).alloc (by first | exact le_refl _ | (simp;done) | (simp;omega) | omega) _).alloc (by first | exact le_refl _ | (simp;done) | (simp;omega) | omega) _)
 go_enter Tryz.func24,Tryz.ntmps24
 go_wp2_with (go_at_call 13;(with_reducible refine (zaf H W C n HN.out _).mono ?_);rintro e1 w1 ⟨rfl,hb⟩;obtain⟨hcc,hff⟩:=Kit.bcell hb;have hz3:w.heap.size+3 < w1.heap.size:=(by have:=hb.size;(try simp at this);omega);have hz2:w.heap.size+2 < w1.heap.size:=(by omega);have hz1:w.heap.size+1 < w1.heap.size:=(by omega);have hz0:w.heap.size < w1.heap.size:=(by omega);(first | (replace HB:=hid (HB.out.trans (hb.mono HB.out.size))) | (replace HB:=hid ((HB.out.alloc HB.out.size _).trans (hb.mono (by have:=HB.out.size;simp;omega)))));clear hb)
 refine bodyPost_ret (Kit.zaa rfl _ _ (w.heap.size+3) 0 [.int .i64 0,.int .i64 0,.int .i64 0] _ rfl (Kit.zaj (by go_cell) (by go_cell) (by go_cell)) Tryz.underlying23 rfl (by kernel_rfl)) rfl ?_
 exact⟨rfl,(((HB.out.setCell (p:=⟨w.heap.size+3,0,none⟩) (Nat.le_add_right _ _) _).setCell (p:=⟨w.heap.size+3,1,none⟩) (Nat.le_add_right _ _) _).setCell (p:=⟨w.heap.size+3,2,none⟩) (Nat.le_add_right _ _) _)⟩
theorem rks8_hi (H W C H2 W2 C2 na nb K S P O Z Y:Int) (WA:Option Addr) (nW cW:Nat) (BA:Option Addr) (nB cB:Nat) (m1 s1 z1 m2 s2 z2 lo hi:Int) (hs:zae H W C=true) (hp:4 < P) (w:World) :
  Calls Tryz.prog 24 #[.agg #[.int .i64 8,.int .i64 na,.int .i64 nb,.int .i64 K,.int .i64 S,.int .i64 P,.int .i64 O,.int .i8 Z,.int .i8 Y,.slice WA nW cW,.slice BA nB cB,.int .i32 m1,.int .i64 s1,.int .i8 z1,.int .i32 m2,.int .i64 s2,.int .i8 z2,.int .i8 lo,.int .i8 hi],.agg #[.int .i64 H,.int .i64 W,.int .i64 C],.agg #[.int .i64 H2,.int .i64 W2,.int .i64 C2]] w fun r w'=>r=.returned (.tuple #[.agg #[.int .i64 0,.int .i64 0,.int .i64 0],.int .i64 2])∧Below w.heap.size w w':=by
 obtain⟨n,hn⟩:∃ n,zam H W C=n:=⟨_,rfl⟩
 obtain⟨q1,q2,q3,q4,q5,q6, -⟩:=zah hs
 have hn0:(n == 0)=false:=by
  rw [← hn]
  have:=zbs q1 q2 q3 q4 q5 q6
  rw [zas hs]
  simp
  omega
 have HN:=hid hn
 clear hn hs
 have kp:decide (P < 0)=false:=by simp;omega
 have kp2:decide (4 < P)=true:=by simpa using hp
 have HP:=hid hp
 clear hp q1 q2 q3 q4 q5 q6
 have HB:Hid (Below w.heap.size w ((((w.alloc (.cells #[.int .i64 8,.int .i64 na,.int .i64 nb,.int .i64 K,.int .i64 S,.int .i64 P,.int .i64 O,.int .i8 Z,.int .i8 Y,.slice WA nW cW,.slice BA nB cB,.int .i32 m1,.int .i64 s1,.int .i8 z1,.int .i32 m2,.int .i64 s2,.int .i8 z2,.int .i8 lo,.int .i8 hi] 61)).alloc (.cells #[.int .i64 H,.int .i64 W,.int .i64 C] 23)).alloc (.cells #[.int .i64 H2,.int .i64 W2,.int .i64 C2] 23)).alloc (.cells #[.int .i64 0,.int .i64 0,.int .i64 0] 23))):=hid (((((Below.refl _ _).alloc (by first | exact le_refl _ | (simp;done) | (simp;omega) | omega) _).alloc (by first | exact le_refl _ | (simp;done) | (simp;omega) | omega) _).alloc (by first | exact le_refl _ | (simp;done) | (simp;omega) | omega) _).alloc (by first | exact le_refl _ | (simp;done) | (simp;omega) | omega) _)
 go_enter Tryz.func24,Tryz.ntmps24
 go_wp2_with (go_at_call 13;(with_reducible refine (zaf H W C n HN.out _).mono ?_);rintro e1 w1 ⟨rfl,hb⟩;obtain⟨hcc,hff⟩:=Kit.bcell hb;have hz3:w.heap.size+3 < w1.heap.size:=(by have:=hb.size;(try simp at this);omega);have hz2:w.heap.size+2 < w1.heap.size:=(by omega);have hz1:w.heap.size+1 < w1.heap.size:=(by omega);have hz0:w.heap.size < w1.heap.size:=(by omega);(first | (replace HB:=hid (HB.out.trans (hb.mono HB.out.size))) | (replace HB:=hid ((HB.out.alloc HB.out.size _).trans (hb.mono (by have:=HB.out.size;simp;omega)))));clear hb)
 refine bodyPost_ret (Kit.zaa rfl _ _ (w.heap.size+3) 0 [.int .i64 0,.int .i64 0,.int .i64 0] _ rfl (Kit.zaj (by go_cell) (by go_cell) (by go_cell)) Tryz.underlying23 rfl (by kernel_rfl)) rfl ?_
 exact⟨rfl,(((HB.out.setCell (p:=⟨w.heap.size+3,0,none⟩) (Nat.le_add_right _ _) _).setCell (p:=⟨w.heap.size+3,1,none⟩) (Nat.le_add_right _ _) _).setCell (p:=⟨w.heap.size+3,2,none⟩) (Nat.le_add_right _ _) _)⟩
theorem rks8_bad (H W C H2 W2 C2 na nb K S P O Z Y:Int) (WA:Option Addr) (nW cW:Nat) (BA:Option Addr) (nB cB:Nat) (m1 s1 z1 m2 s2 z2 lo hi:Int) (hs:zae H W C=true) (p1:0≤P) (p2:P≤4) (ht:zae (H+2 * P) (W+2 * P) C=false) (w:World) :
  Calls Tryz.prog 24 #[.agg #[.int .i64 8,.int .i64 na,.int .i64 nb,.int .i64 K,.int .i64 S,.int .i64 P,.int .i64 O,.int .i8 Z,.int .i8 Y,.slice WA nW cW,.slice BA nB cB,.int .i32 m1,.int .i64 s1,.int .i8 z1,.int .i32 m2,.int .i64 s2,.int .i8 z2,.int .i8 lo,.int .i8 hi],.agg #[.int .i64 H,.int .i64 W,.int .i64 C],.agg #[.int .i64 H2,.int .i64 W2,.int .i64 C2]] w fun r w'=>r=.returned (.tuple #[.agg #[.int .i64 0,.int .i64 0,.int .i64 0],.int .i64 5])∧Below w.heap.size w w':=by
 obtain⟨n,hn⟩:∃ n,zam H W C=n:=⟨_,rfl⟩
 obtain⟨q1,q2,q3,q4,q5,q6, -⟩:=zah hs
 have hn0:(n == 0)=false:=by
  rw [← hn]
  have:=zbs q1 q2 q3 q4 q5 q6
  rw [zas hs]
  simp
  omega
 have HN:=hid hn
 clear hn hs
 have kp:decide (P < 0)=false:=by simp;omega
 have kp2:decide (4 < P)=false:=by simp;omega
 have f1:IntKind.i64.wrap (2 * P)=2 * P:=IntWalk.i64_in _ (by omega)
 have f2:IntKind.i64.wrap (H+2 * P)=H+2 * P:=IntWalk.i64_in _ (by omega)
 have f3:IntKind.i64.wrap (W+2 * P)=W+2 * P:=IntWalk.i64_in _ (by omega)
 obtain⟨n2,hn2⟩:∃ n,zam (H+2 * P) (W+2 * P) C=n:=⟨_,rfl⟩
 obtain⟨H',hH⟩:∃ a,H+2 * P=a:=⟨_,rfl⟩
 obtain⟨W',hW⟩:∃ a,W+2 * P=a:=⟨_,rfl⟩
 have hm0:n2=0:=by rw [← hn2];exact zbe ht
 subst hm0
 rw [hH] at f2 hn2 ht
 rw [hW] at f3 hn2 ht
 have HN2:=hid hn2
 have HP:=hid (And.intro p1 p2)
 have g2:IntKind.i64.wrap (H+2 * P)=H':=by rw [hH];exact f2
 have g3:IntKind.i64.wrap (W+2 * P)=W':=by rw [hW];exact f3
 have HH:=hid (And.intro hH hW)
 clear f2 f3 hn2 ht hH hW q1 q2 q3 q4 q5 q6 p1 p2
 have HB:Hid (Below w.heap.size w ((((w.alloc (.cells #[.int .i64 8,.int .i64 na,.int .i64 nb,.int .i64 K,.int .i64 S,.int .i64 P,.int .i64 O,.int .i8 Z,.int .i8 Y,.slice WA nW cW,.slice BA nB cB,.int .i32 m1,.int .i64 s1,.int .i8 z1,.int .i32 m2,.int .i64 s2,.int .i8 z2,.int .i8 lo,.int .i8 hi] 61)).alloc (.cells #[.int .i64 H,.int .i64 W,.int .i64 C] 23)).alloc (.cells #[.int .i64 H2,.int .i64 W2,.int .i64 C2] 23)).alloc (.cells #[.int .i64 0,.int .i64 0,.int .i64 0] 23))):=hid (((((Below.refl _ _).alloc (by first | exact le_refl _ | (simp;done) | (simp;omega) | omega) _).alloc (by first | exact le_refl _ | (simp;done) | (simp;omega) | omega) _).alloc (by first | exact le_refl _ | (simp;done) | (simp;omega) | omega) _).alloc (by first | exact le_refl _ | (simp;done) | (simp;omega) | omega) _)
 go_enter Tryz.func24,Tryz.ntmps24
 go_wp2_with (first
  | (go_at_call 13;(with_reducible refine (zaf H W C n HN.out _).mono ?_);rintro e1 w1 ⟨rfl,hb⟩;obtain⟨hcc,hff⟩:=Kit.bcell hb;have hz3:w.heap.size+3 < w1.heap.size:=(by have:=hb.size;(try simp at this);omega);have hz2:w.heap.size+2 < w1.heap.size:=(by omega);have hz1:w.heap.size+1 < w1.heap.size:=(by omega);have hz0:w.heap.size < w1.heap.size:=(by omega);(first | (replace HB:=hid (HB.out.trans (hb.mono HB.out.size))) | (replace HB:=hid ((HB.out.alloc HB.out.size _).trans (hb.mono (by have:=HB.out.size;simp;omega)))));clear hb)
  | (go_at_call 13;(with_reducible refine (zaf H' W' C _ HN2.out _).mono ?_);rintro e1 w1 ⟨rfl,hb⟩;obtain⟨hcc,hff⟩:=Kit.bcell hb;have hz3:w.heap.size+3 < w1.heap.size:=(by have:=hb.size;(try simp at this);omega);have hz2:w.heap.size+2 < w1.heap.size:=(by omega);have hz1:w.heap.size+1 < w1.heap.size:=(by omega);have hz0:w.heap.size < w1.heap.size:=(by omega);(first | (replace HB:=hid (HB.out.trans (hb.mono HB.out.size))) | (replace HB:=hid ((HB.out.alloc HB.out.size _).trans (hb.mono (by have:=HB.out.size;simp;omega)))));clear hb))
 refine bodyPost_ret (Kit.zaa rfl _ _ (w.heap.size+3) 0 [.int .i64 0,.int .i64 0,.int .i64 0] _ rfl (Kit.zaj (by go_cell) (by go_cell) (by go_cell)) Tryz.underlying23 rfl (by kernel_rfl)) rfl ?_
 exact⟨rfl,(((HB.out.setCell (p:=⟨w.heap.size+3,0,none⟩) (Nat.le_add_right _ _) _).setCell (p:=⟨w.heap.size+3,1,none⟩) (Nat.le_add_right _ _) _).setCell (p:=⟨w.heap.size+3,2,none⟩) (Nat.le_add_right _ _) _)⟩
theorem rks8_ok (H W C H2 W2 C2 na nb K S P O Z Y:Int) (WA:Option Addr) (nW cW:Nat) (BA:Option Addr) (nB cB:Nat) (m1 s1 z1 m2 s2 z2 lo hi:Int) (hs:zae H W C=true) (p1:0≤P) (p2:P≤4) (ht:zae (H+2 * P) (W+2 * P) C=true) (w:World) :
  Calls Tryz.prog 24 #[.agg #[.int .i64 8,.int .i64 na,.int .i64 nb,.int .i64 K,.int .i64 S,.int .i64 P,.int .i64 O,.int .i8 Z,.int .i8 Y,.slice WA nW cW,.slice BA nB cB,.int .i32 m1,.int .i64 s1,.int .i8 z1,.int .i32 m2,.int .i64 s2,.int .i8 z2,.int .i8 lo,.int .i8 hi],.agg #[.int .i64 H,.int .i64 W,.int .i64 C],.agg #[.int .i64 H2,.int .i64 W2,.int .i64 C2]] w fun r w'=>r=.returned (.tuple #[.agg #[.int .i64 (H+2 * P),.int .i64 (W+2 * P),.int .i64 C],.int .i64 0])∧Below w.heap.size w w':=by
 obtain⟨n,hn⟩:∃ n,zam H W C=n:=⟨_,rfl⟩
 obtain⟨q1,q2,q3,q4,q5,q6, -⟩:=zah hs
 have hn0:(n == 0)=false:=by
  rw [← hn]
  have:=zbs q1 q2 q3 q4 q5 q6
  rw [zas hs]
  simp
  omega
 have HN:=hid hn
 clear hn hs
 have kp:decide (P < 0)=false:=by simp;omega
 have kp2:decide (4 < P)=false:=by simp;omega
 have f1:IntKind.i64.wrap (2 * P)=2 * P:=IntWalk.i64_in _ (by omega)
 have f2:IntKind.i64.wrap (H+2 * P)=H+2 * P:=IntWalk.i64_in _ (by omega)
 have f3:IntKind.i64.wrap (W+2 * P)=W+2 * P:=IntWalk.i64_in _ (by omega)
 obtain⟨n2,hn2⟩:∃ n,zam (H+2 * P) (W+2 * P) C=n:=⟨_,rfl⟩
 obtain⟨H',hH⟩:∃ a,H+2 * P=a:=⟨_,rfl⟩
 obtain⟨W',hW⟩:∃ a,W+2 * P=a:=⟨_,rfl⟩
 have hm0:(n2 == 0)=false:=by
  rw [← hn2]
  obtain⟨r1,r2,r3,r4,r5,r6, -⟩:=zah ht
  have:=zbs r1 r2 r3 r4 r5 r6
  rw [zas ht]
  simp
  omega
 rw [hH] at f2 hn2 ht ⊢
 rw [hW] at f3 hn2 ht ⊢
 have HN2:=hid hn2
 have HP:=hid (And.intro p1 p2)
 have g2:IntKind.i64.wrap (H+2 * P)=H':=by rw [hH];exact f2
 have g3:IntKind.i64.wrap (W+2 * P)=W':=by rw [hW];exact f3
 have HH:=hid (And.intro hH hW)
 clear f2 f3 hn2 ht hH hW q1 q2 q3 q4 q5 q6 p1 p2
 have HB:Hid (Below w.heap.size w ((((w.alloc (.cells #[.int .i64 8,.int .i64 na,.int .i64 nb,.int .i64 K,.int .i64 S,.int .i64 P,.int .i64 O,.int .i8 Z,.int .i8 Y,.slice WA nW cW,.slice BA nB cB,.int .i32 m1,.int .i64 s1,.int .i8 z1,.int .i32 m2,.int .i64 s2,.int .i8 z2,.int .i8 lo,.int .i8 hi] 61)).alloc (.cells #[.int .i64 H,.int .i64 W,.int .i64 C] 23)).alloc (.cells #[.int .i64 H2,.int .i64 W2,.int .i64 C2] 23)).alloc (.cells #[.int .i64 0,.int .i64 0,.int .i64 0] 23))):=hid (((((Below.refl _ _).alloc (by first | exact le_refl _ | (simp;done) | (simp;omega) | omega) _).alloc (by first | exact le_refl _ | (simp;done) | (simp;omega) | omega) _).alloc (by first | exact le_refl _ | (simp;done) | (simp;omega) | omega) _).alloc (by first | exact le_refl _ | (simp;done) | (simp;omega) | omega) _)
 go_enter Tryz.func24,Tryz.ntmps24
 go_wp2_with (first
  | (go_at_call 13;(with_reducible refine (zaf H W C n HN.out _).mono ?_);rintro e1 w1 ⟨rfl,hb⟩;obtain⟨hcc,hff⟩:=Kit.bcell hb;have hz3:w.heap.size+3 < w1.heap.size:=(by have:=hb.size;(try simp at this);omega);have hz2:w.heap.size+2 < w1.heap.size:=(by omega);have hz1:w.heap.size+1 < w1.heap.size:=(by omega);have hz0:w.heap.size < w1.heap.size:=(by omega);(first | (replace HB:=hid (HB.out.trans (hb.mono HB.out.size))) | (replace HB:=hid ((HB.out.alloc HB.out.size _).trans (hb.mono (by have:=HB.out.size;simp;omega)))));clear hb)
  | (go_at_call 13;(with_reducible refine (zaf H' W' C _ HN2.out _).mono ?_);rintro e1 w1 ⟨rfl,hb⟩;obtain⟨hcc,hff⟩:=Kit.bcell hb;have hz3:w.heap.size+3 < w1.heap.size:=(by have:=hb.size;(try simp at this);omega);have hz2:w.heap.size+2 < w1.heap.size:=(by omega);have hz1:w.heap.size+1 < w1.heap.size:=(by omega);have hz0:w.heap.size < w1.heap.size:=(by omega);(first | (replace HB:=hid (HB.out.trans (hb.mono HB.out.size))) | (replace HB:=hid ((HB.out.alloc HB.out.size _).trans (hb.mono (by have:=HB.out.size;simp;omega)))));clear hb))
 refine bodyPost_ret (Kit.zaa rfl _ _ (w.heap.size+3) 0 [.int .i64 H',.int .i64 W',.int .i64 C] _ rfl (Kit.zaj (by go_cell) (by go_cell) (by go_cell)) Tryz.underlying23 rfl (by kernel_rfl)) rfl ?_
 exact⟨rfl,(((HB.out.setCell (p:=⟨w.heap.size+3,0,none⟩) (Nat.le_add_right _ _) _).setCell (p:=⟨w.heap.size+3,1,none⟩) (Nat.le_add_right _ _) _).setCell (p:=⟨w.heap.size+3,2,none⟩) (Nat.le_add_right _ _) _)⟩
end CKind
end
end Go.Proofs.YtoffcaldhojjoaaGreatDoor
