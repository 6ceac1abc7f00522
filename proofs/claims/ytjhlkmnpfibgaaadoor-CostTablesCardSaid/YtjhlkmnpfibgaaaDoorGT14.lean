/- -/
import Derived.Test.YtjhlkmnpfibgaaaDoorGT11
import Derived.Test.YtjhlkmnpfibgaaaDoorGT12
import Derived.Test.YtjhlkmnpfibgaaaDoorGT13
open Go.Lib (hid)
open Nat (le_refl lt_of_succ_lt lt_succ_self)
set_option linter.unusedVariables false
set_option linter.unusedSimpArgs false
set_option maxRecDepth 100000
set_option maxHeartbeats 16000000
namespace Go.Proofs.YtjhlkmnpfibgaaaDoor
namespace CConv
end CConv
namespace CSat
end CSat
namespace CTensor
end CTensor
open Go Go.ChangeShapes Go.WideShapes Go.ChangeAt Go.RowKit Go.Deep
section
namespace CKind
open Plain CSat CShape CTensor CConv
theorem refMore_to (x:Nd):MoreIs x:=by
 by_cases h0:x.kd < 1∨9 < x.kd
 ·exact more_o x h0
 ·have:x.kd=1∨x.kd=2∨x.kd=3∨x.kd=4∨x.kd=5∨x.kd=6∨x.kd=7∨x.kd=8∨x.kd=9:=by omega
  rcases this with h | h | h | h | h | h | h | h | h
  ·exact more_1 x h
  ·exact more_2 x h
  ·exact more_3 x h
  ·exact more_4 x h
  ·exact more_5 x h
  ·exact more_6 x h
  ·exact more_7 x h
  ·exact more_8 x h
  ·exact more_9 x h
end CKind
end
section
namespace CFix
open Go Go.ChangeShapes Go.WideShapes Go.ChangeAt Go.RowKit
open Plain CSat
theorem refRight_yes (m s z:Int) (h:zbu m s=true) (w:World) :
  Calls Tryd.prog 52 #[.agg #[.int .i32 m,.int .i64 s,.int .i8 z]] w fun e w'=>e=.returned (.bool true)∧Below w.heap.size w w':=by
 obtain⟨h1,h2,h3⟩:0 < m∧0≤s∧s≤62:=by simpa [zbu] using h
 clear h
 go_enter Tryd.func52,Tryd.ntmps52
 go_wp2
 go_ret
 exact⟨rfl,(Below.refl _ _).alloc (le_refl _) _⟩
theorem refRight_no (m s z:Int) (h:zbu m s=false) (w:World) :
  Calls Tryd.prog 52 #[.agg #[.int .i32 m,.int .i64 s,.int .i8 z]] w fun e w'=>e=.returned (.bool false)∧Below w.heap.size w w':=by
 have h0:¬ (0 < m∧0≤s∧s≤62):=by simpa [zbu] using h
 clear h
 have h1:(decide (0 < m)=false)∨(0 < m∧decide (0≤s)=false)∨(0 < m∧0≤s∧decide (s≤62)=false):=by simp;omega
 clear h0
 rcases h1 with h1 | ⟨h1,h2⟩ | ⟨h1,h2,h3⟩
 all_goals
  go_enter Tryd.func52,Tryd.ntmps52
  go_wp2
  go_ret
  exact⟨rfl,(Below.refl _ _).alloc (le_refl _) _⟩
end CFix
end
section
namespace CConv
open Go Go.ChangeShapes Go.WideShapes Go.ChangeAt Go.RowKit
open Plain CSat CShape CTensor
def zbn (B:Nat) (H W C:Int) (wd:World):Prop :=
 wd.cell? ⟨B,0,none⟩=some (.int .i64 H)∧wd.cell? ⟨B,1,none⟩=some (.int .i64 W)∧wd.cell? ⟨B,2,none⟩=some (.int .i64 C)
theorem zbn.below {B B':Nat} {H W C:Int} {w w':World} (h:zbn B H W C w) (hB:B < B') (hb:Below B' w w'):zbn B H W C w' :=
 ⟨(hb.cell (p:=⟨B,0,none⟩) hB).trans h.1,(hb.cell (p:=⟨B,1,none⟩) hB).trans h.2.1,(hb.cell (p:=⟨B,2,none⟩) hB).trans h.2.2⟩
theorem zau (H W C:Int) (T:TypeId) (w:World):zbn w.heap.size H W C (w.alloc (.cells #[.int .i64 H,.int .i64 W,.int .i64 C] T)):=⟨Kit.zak _ _ _ _,Kit.zak _ _ _ _,Kit.zak _ _ _ _⟩
theorem convE_ok {H W C K S P O:Int} {nW nB:Nat} (h:convE H W C K S P O nW nB=0):zas H W C K S P O=0∧(nW:Int)=O * K * K * C∧nW≤16384∧(nB:Int)=O:=by
 unfold convE at h
 by_cases h1:zas H W C K S P O≠0
 ·rw [if_pos h1] at h;exact absurd h h1
 ·rw [if_neg h1] at h
  by_cases h2:(nW:Int)=O * K * K * C∧nW≤16384∧(nB:Int)=O
  ·exact⟨by omega,h2⟩
  ·rw [if_neg h2] at h;omega
end CConv
end
section
namespace CTensor
open Go Go.ChangeShapes Go.WideShapes Go.ChangeAt Go.RowKit
open Plain CSat CShape
theorem eqShape (a b c x y z:Int) (w:World):(Op.equalIn 10000 30 (.agg #[.int .i64 a,.int .i64 b,.int .i64 c]) (.agg #[.int .i64 x,.int .i64 y,.int .i64 z])).run Tryd.prog w=.ok (a == x && (b == y && c == z)) w:=by
 have u3:=Tryd.underlying3
 have a3:=Tryd.isAgg3
 have z3:=Tryd.sizeOf3
 have hS:Tryd.prog.underlying 30=some (.struct (Tryd.prog.fieldsOf 30)):=by kernel_rfl
 rw [show (10000:Nat)=9999+1 from rfl,run_equalIn_agg w 9999 30 _ _ hS Tryd.stoodInHeld30]
 simp only [Program.fieldsOf,Tryd.underlying30]
 go_simp
 by_cases h1:a=x <;> by_cases h2:b=y <;> by_cases h3:c=z <;> simp [h1,h2,h3]
end CTensor
end
section
namespace CKind
open Plain CSat CShape CTensor CConv
def Nd.zero:Nd:=⟨0,0,0,0,0,0,0,0,0,none,0,0,none,0,0,0,0,0,0,0,0,0,0⟩
def Nd.ownK (x:Nd) (k:Int):Nd :=
 ⟨k,x.na,if k == 6 then x.nb else 0,if zaf k then x.K else 0,if zaf k then x.S else 0,if zaf k || k == 8 then x.P else 0,if k == 1 || k == 3 then x.O else 0,if zac k || k == 8 then x.Z else 0,if k == 6 then x.Y else 0,
  if sumsB k then x.WA else none,if sumsB k then x.nW else 0,if sumsB k then x.cW else 0,if sumsB k then x.BA else none,if sumsB k then x.nB else 0,if sumsB k then x.cB else 0,
  if zac k then x.m1 else 0,if zac k then x.s1 else 0,if zac k then x.z1 else 0,if k == 6 then x.m2 else 0,if k == 6 then x.s2 else 0,0,if zac k then x.lo else 0,if zac k then x.hi else 0⟩
end CKind
end
section
namespace CLower
open Go Go.ChangeShapes Go.WideShapes Go.ChangeAt Go.RowKit
open Plain CSat CShape CTensor CConv
theorem work_bd {n K C:Int} (n1:0≤n) (n2:n≤1024) (h1:1≤C) (h2:C≤1024) (h3:1≤K) (h4:K≤7) :
  0≤n * K∧n * K≤7168∧0≤n * K * K∧n * K * K≤50176∧0≤n * K * K * C∧n * K * K * C≤51380224:=by
 have a1:0≤n * K:=Int.mul_nonneg n1 (by omega)
 have a2:n * K≤1024 * 7:=Int.mul_le_mul n2 h4 (by omega) (by omega)
 have a3:0≤n * K * K:=Int.mul_nonneg a1 (by omega)
 have a4:n * K * K≤7168 * 7:=Int.mul_le_mul (by omega) h4 (by omega) (by omega)
 have a5:0≤n * K * K * C:=Int.mul_nonneg a3 (by omega)
 have a6:n * K * K * C≤50176 * 1024:=Int.mul_le_mul (by omega) h2 (by omega) (by omega)
 omega
theorem work_ok (H W C:Int) (x0 x1 x2 x8 x11 x12 x13 x14 x15 x16 x17 x18:Value) (K S P O Z:Int) (WA BA:Option Addr) (nW cW nB cB:Nat) (he:convE H W C K S P O nW nB=0) (V:Int) (hV:zam (zai H K S P) (zai W K S P) O * K * K * C=V) (w:World) :
  Calls Tryd.prog 24 #[.agg #[.int .i64 H,.int .i64 W,.int .i64 C],.agg #[x0,x1,x2,.int .i64 K,.int .i64 S,.int .i64 P,.int .i64 O,.int .i8 Z,x8,.slice WA nW cW,.slice BA nB cB,x11,x12,x13,x14,x15,x16,x17,x18]] w fun e' w'=>e'=.returned (.int .i64 V)∧Below w.heap.size w w':=by
 obtain⟨hs,hw,hw2,hb⟩:=convE_ok he
 obtain⟨a1,a2,a3,a4,a5,a6⟩:=za2 hs
 obtain⟨c1,c2,c3,c4,c5,c6,c7⟩:=zad a1
 obtain⟨-, -,k1,k2, -⟩:=zay a2
 obtain⟨n,hn⟩:∃ n,zam (zai H K S P) (zai W K S P) O=n:=⟨_,rfl⟩
 have nb:=elemsZ_bd (zai H K S P) (zai W K S P) O
 rw [hn] at nb
 obtain⟨n1,n2⟩:=nb
 obtain⟨w1,w2,w3,w4,w5,w6⟩:=work_bd (C:=C) n1 n2 (by omega) (by omega) k1 (by omega)
 obtain⟨p1,hp1⟩:∃ p,n * K=p:=⟨_,rfl⟩
 rw [hp1] at w1 w2 w3 w4 w5 w6
 obtain⟨p2,hp2⟩:∃ p,p1 * K=p:=⟨_,rfl⟩
 rw [hp2] at w3 w4 w5 w6
 obtain⟨p3,hp3⟩:∃ p,p2 * C=p:=⟨_,rfl⟩
 rw [hp3] at w5 w6
 have e1:IntKind.i64.wrap (n * K)=p1:=by rw [hp1];exact IntWalk.i64_in _ (by omega)
 have e2:IntKind.i64.wrap (p1 * K)=p2:=by rw [hp2];exact IntWalk.i64_in _ (by omega)
 have e3:IntKind.i64.wrap (p2 * C)=p3:=by rw [hp3];exact IntWalk.i64_in _ (by omega)
 rw [hn,hp1,hp2,hp3] at hV
 subst hV
 obtain⟨s1,hs1⟩:∃ s,zai H K S P=s:=⟨_,rfl⟩
 obtain⟨s2,hs2⟩:∃ s,zai W K S P=s:=⟨_,rfl⟩
 obtain⟨s3,hs3⟩:∃ s:Int,O=s:=⟨_,rfl⟩
 have hv:convS H W C K S P O nW nB=#[.int .i64 s1,.int .i64 s2,.int .i64 s3]:=by unfold convS;rw [if_pos he,hs1,hs2,hs3]
 rw [hs1,hs2,hs3] at hn
 have HE:=hid he
 have HV:=hid hv
 have HN:=hid hn
 clear he hv hn hs1 hs2 hs3 hp1 hp2 hp3 hs hw hw2 hb a1 a2 a3 a4 a5 a6 c1 c2 c3 c4 c5 c6 c7
 have TN0:Hid (zbe (w.heap.size+1) x0 x1 x2 x8 x11 x12 x13 x14 x15 x16 x17 x18 K S P O Z WA BA nW cW nB cB ((w.alloc (.cells #[.int .i64 H,.int .i64 W,.int .i64 C] 30)).alloc (.cells #[x0,x1,x2,.int .i64 K,.int .i64 S,.int .i64 P,.int .i64 O,.int .i8 Z,x8,.slice WA nW cW,.slice BA nB cB,x11,x12,x13,x14,x15,x16,x17,x18] 35))):=by
  have h:=zbe.new x0 x1 x2 x8 x11 x12 x13 x14 x15 x16 x17 x18 K S P O Z WA BA nW cW nB cB 35 (w.alloc (.cells #[.int .i64 H,.int .i64 W,.int .i64 C] 30))
  rw [World.size_alloc] at h
  exact hid h
 go_enter Tryd.func24,Tryd.ntmps24
 go_wp2_with (first
   | (go_at_call 34
      have hal:Below w.heap.size w ((w.alloc (.cells #[.int .i64 H,.int .i64 W,.int .i64 C] 30)).alloc (.cells #[x0,x1,x2,.int .i64 K,.int .i64 S,.int .i64 P,.int .i64 O,.int .i8 Z,x8,.slice WA nW cW,.slice BA nB cB,x11,x12,x13,x14,x15,x16,x17,x18] 35)):=((Below.refl _ _).alloc (by first | exact le_refl _ | (simp;done) | (simp;omega)) _).alloc (by first | exact le_refl _ | (simp;done) | (simp;omega)) _
      refine (conv_to H W C x0 x1 x2 x8 x11 x12 x13 x14 x15 x16 x17 x18 K S P O Z WA BA nW cW nB cB _ _ HE.out HV.out _).mono ?_
      rintro e w1 ⟨rfl,hb⟩
      have hh:Below w.heap.size w w1:=hal.trans (hb.mono hal.size)
      have qTB:=(zau H W C 30) w
      try simp only [World.size_alloc] at qTB
      have TB:=hid ((qTB.below (B':=w.heap.size+1) (by omega) (((Below.refl _ _).alloc (by first | exact le_refl _ | (simp;done) | (simp;omega)) _).mono (by simp))).below (by first | (simp;done) | (simp;omega)) hb)
      have yTB:w.heap.size < w1.heap.size:=by have:=hb.size;simp at this;omega
      clear qTB
      have qTN:=(zbe.new x0 x1 x2 x8 x11 x12 x13 x14 x15 x16 x17 x18 K S P O Z WA BA nW cW nB cB 35) (w.alloc (.cells #[.int .i64 H,.int .i64 W,.int .i64 C] 30))
      try simp only [World.size_alloc] at qTN
      have TN:=hid (qTN.below (by first | (simp;done) | (simp;omega)) hb)
      have yTN:w.heap.size+1 < w1.heap.size:=by have:=hb.size;simp at this;omega
      clear qTN
      have HBW:Hid (Below w.heap.size w w1):=hid hh
      obtain⟨tbp0,tbp1,tbp2⟩:=TB.out
      clear hb hh hal)
   | (refine wpList_load_mid rfl 35 (.tmp 3) rfl (w.heap.size+1) 0 rfl [x0,x1,x2,.int .i64 K,.int .i64 S,.int .i64 P,.int .i64 O,.int .i8 Z,x8,.slice WA nW cW,.slice BA nB cB,x11,x12,x13,x14,x15,x16,x17,x18] _ (TN0.out) Tryd.underlying35 rfl (by kernel_rfl) ?_)
   | (refine wpList_load_mid rfl 35 (.tmp 3) rfl (w.heap.size+1) 0 rfl [x0,x1,x2,.int .i64 K,.int .i64 S,.int .i64 P,.int .i64 O,.int .i8 Z,x8,.slice WA nW cW,.slice BA nB cB,x11,x12,x13,x14,x15,x16,x17,x18] _ (TN.out) Tryd.underlying35 rfl (by kernel_rfl) ?_))
 have ySS:w1.heap.size < (w1.alloc (.cells #[.int .i64 s1,.int .i64 s2,.int .i64 s3] 30)).heap.size:=by simp
 have HSS:=hid (zau s1 s2 s3 30 w1)
 have hal:=(Below.refl w1.heap.size w1).alloc (le_refl _) (.cells #[.int .i64 s1,.int .i64 s2,.int .i64 s3] 30)
 replace TB:=hid (TB.out.below yTB hal)
 replace TN:=hid (TN.out.below yTN hal)
 replace HBW:=hid (HBW.out.trans (hal.mono HBW.out.size))
 replace yTB:=Nat.lt_of_lt_of_le yTB hal.size
 replace yTN:=Nat.lt_of_lt_of_le yTN hal.size
 clear hal
 refine wp_region_held_drew (S:=fun W'=>zbn (w1.heap.size) s1 s2 s3 W'∧zbn (w.heap.size) H W C W'∧zbe (w.heap.size+1) x0 x1 x2 x8 x11 x12 x13 x14 x15 x16 x17 x18 K S P O Z WA BA nW cW nB cB W') (by kernel_rfl) ⟨HSS.out.below ySS (Below.refl _ _).drew,TB.out.below yTB (Below.refl _ _).drew,TN.out.below yTN (Below.refl _ _).drew⟩ (fun hHeld=>?_)
 refine Tk.y 0 (v:=?_) rfl ?_ ?_
 rotate_left
 ·intro wS hSw
  obtain⟨⟨q0,q1,q2⟩, -, -⟩:=hSw
  first | (go_simp;done) | (go_simp;with_reducible rfl)
 try simp only [Tk.put]
 refine Tk.x 2 rfl ?_
 try simp only [Tk.put]
 refine Tk.y 3 (v:=?_) rfl ?_ ?_
 rotate_left
 ·intro wS hSw
  have q0:=hSw.2.2.at 3 (.int .i64 K) rfl
  first | (go_simp;done) | (go_simp;with_reducible rfl)
 try simp only [Tk.put]
 refine Tk.x 5 rfl ?_
 try simp only [Tk.put]
 refine Tk.y 6 (v:=?_) rfl ?_ ?_
 rotate_left
 ·intro wS hSw
  have q0:=hSw.2.2.at 3 (.int .i64 K) rfl
  first | (go_simp;done) | (go_simp;with_reducible rfl)
 try simp only [Tk.put]
 refine Tk.x 8 rfl ?_
 try simp only [Tk.put]
 refine Tk.y 9 (v:=?_) rfl ?_ ?_
 rotate_left
 ·intro wS hSw
  obtain⟨-,⟨q0,q1,q2⟩, -⟩:=hSw
  first | (go_simp;done) | (go_simp;with_reducible rfl)
 try simp only [Tk.put]
 refine Tk.s 1 rfl (fun K hK=>?_)
 go_simp
 go_at_call 23
 refine (zba s1 s2 s3 n HN.out _).mono ?_
 rintro e w3 ⟨rfl,hb⟩
 replace hb:=(Below.refl _ _).drew.trans hb
 have HSS2:=hid (HSS.out.below ySS hb)
 have TB2:=hid (TB.out.below yTB hb)
 have TN2:=hid (TN.out.below yTN hb)
 have HBW2:=hid (HBW.out.trans (hb.mono HBW.out.size))
 clear hHeld
 dsimp only
 refine hK.out _ _ ?_ (fun hHeld=>?_)
 ·exact⟨HSS2.out,TB2.out,TN2.out⟩
 clear hK K
 try simp only [Tk.put]
 refine Tk.x 4 rfl ?_
 try simp only [Tk.put]
 refine Tk.x 7 rfl ?_
 try simp only [Tk.put]
 refine Tk.x 10 rfl ?_
 try simp only [Tk.put]
 refine Tk.x 11 rfl ?_
 try simp only [Tk.put]
 refine wpAnyH_done (by kernel_rfl) ?_ _
 go_wp2_with fail
 go_ret
 exact⟨rfl,HBW2.out⟩
end CLower
end
end Go.Proofs.YtjhlkmnpfibgaaaDoor
