/- -/
import Derived.Test.YtjhlkmnpfibgaaaDoorGM15
import Derived.Test.YtjhlkmnpfibgaaaDoorGM16
open Go.Lib (hid)
open Nat (le_refl lt_of_succ_lt lt_succ_self)
set_option linter.unusedVariables false
set_option linter.unusedSimpArgs false
set_option maxRecDepth 100000
set_option maxHeartbeats 16000000
namespace Go.Proofs.YtjhlkmnpfibgaaaDoor
namespace CConv
end CConv
namespace CSat
end CSat
namespace CShape
end CShape
namespace CTensor
end CTensor
open Go Go.ChangeShapes Go.WideShapes Go.ChangeAt Go.RowKit
section
namespace CLower
open Plain CSat CShape CTensor CConv
theorem work_bd {n K C:Int} (n1:0≤n) (n2:n≤1024) (h1:1≤C) (h2:C≤1024) (h3:1≤K) (h4:K≤7) :
  0≤n * K∧n * K≤7168∧0≤n * K * K∧n * K * K≤50176∧0≤n * K * K * C∧n * K * K * C≤51380224:=by
 have a1:0≤n * K:=Int.mul_nonneg n1 (by omega)
 have a2:n * K≤1024 * 7:=Int.mul_le_mul n2 h4 (by omega) (by omega)
 have a3:0≤n * K * K:=Int.mul_nonneg a1 (by omega)
 have a4:n * K * K≤7168 * 7:=Int.mul_le_mul (by omega) h4 (by omega) (by omega)
 have a5:0≤n * K * K * C:=Int.mul_nonneg a3 (by omega)
 have a6:n * K * K * C≤50176 * 1024:=Int.mul_le_mul (by omega) h2 (by omega) (by omega)
 omega
theorem work_ok (H W C:Int) (x0 x1 x2 x8 x11 x12 x13 x14 x15 x16 x17 x18:Value) (K S P O Z:Int) (WA BA:Option Addr) (nW cW nB cB:Nat) (he:convE H W C K S P O nW nB=0) (V:Int) (hV:zam (zac H K S P) (zac W K S P) O * K * K * C=V) (w:World) :
  Calls Tryd.prog 24 #[.agg #[.int .i64 H,.int .i64 W,.int .i64 C],.agg #[x0,x1,x2,.int .i64 K,.int .i64 S,.int .i64 P,.int .i64 O,.int .i8 Z,x8,.slice WA nW cW,.slice BA nB cB,x11,x12,x13,x14,x15,x16,x17,x18]] w fun e' w'=>e'=.returned (.int .i64 V)∧Below w.heap.size w w':=by
 obtain⟨hs,hw,hw2,hb⟩:=convE_ok he
 obtain⟨a1,a2,a3,a4,a5,a6⟩:=zax hs
 obtain⟨c1,c2,c3,c4,c5,c6,c7⟩:=zad a1
 obtain⟨-, -,k1,k2, -⟩:=zaw a2
 obtain⟨n,hn⟩:∃ n,zam (zac H K S P) (zac W K S P) O=n:=⟨_,rfl⟩
 have nb:=elemsZ_bd (zac H K S P) (zac W K S P) O
 rw [hn] at nb
 obtain⟨n1,n2⟩:=nb
 obtain⟨w1,w2,w3,w4,w5,w6⟩:=work_bd (C:=C) n1 n2 (by omega) (by omega) k1 (by omega)
 obtain⟨p1,hp1⟩:∃ p,n * K=p:=⟨_,rfl⟩
 rw [hp1] at w1 w2 w3 w4 w5 w6
 obtain⟨p2,hp2⟩:∃ p,p1 * K=p:=⟨_,rfl⟩
 rw [hp2] at w3 w4 w5 w6
 obtain⟨p3,hp3⟩:∃ p,p2 * C=p:=⟨_,rfl⟩
 rw [hp3] at w5 w6
 have e1:IntKind.i64.wrap (n * K)=p1:=by rw [hp1];exact IntWalk.i64_in _ (by omega)
 have e2:IntKind.i64.wrap (p1 * K)=p2:=by rw [hp2];exact IntWalk.i64_in _ (by omega)
 have e3:IntKind.i64.wrap (p2 * C)=p3:=by rw [hp3];exact IntWalk.i64_in _ (by omega)
 rw [hn,hp1,hp2,hp3] at hV
 subst hV
 obtain⟨s1,hs1⟩:∃ s,zac H K S P=s:=⟨_,rfl⟩
 obtain⟨s2,hs2⟩:∃ s,zac W K S P=s:=⟨_,rfl⟩
 obtain⟨s3,hs3⟩:∃ s:Int,O=s:=⟨_,rfl⟩
 have hv:convS H W C K S P O nW nB=#[.int .i64 s1,.int .i64 s2,.int .i64 s3]:=by unfold convS;rw [if_pos he,hs1,hs2,hs3]
 rw [hs1,hs2,hs3] at hn
 have HE:=hid he
 have HV:=hid hv
 have HN:=hid hn
 clear he hv hn hs1 hs2 hs3 hp1 hp2 hp3 hs hw hw2 hb a1 a2 a3 a4 a5 a6 c1 c2 c3 c4 c5 c6 c7
 have TN0:Hid (za6 (w.heap.size+1) x0 x1 x2 x8 x11 x12 x13 x14 x15 x16 x17 x18 K S P O Z WA BA nW cW nB cB ((w.alloc (.cells #[.int .i64 H,.int .i64 W,.int .i64 C] 30)).alloc (.cells #[x0,x1,x2,.int .i64 K,.int .i64 S,.int .i64 P,.int .i64 O,.int .i8 Z,x8,.slice WA nW cW,.slice BA nB cB,x11,x12,x13,x14,x15,x16,x17,x18] 35))):=by
  have h:=za6.new x0 x1 x2 x8 x11 x12 x13 x14 x15 x16 x17 x18 K S P O Z WA BA nW cW nB cB 35 (w.alloc (.cells #[.int .i64 H,.int .i64 W,.int .i64 C] 30))
  rw [World.size_alloc] at h
  exact hid h
 go_enter Tryd.func24,Tryd.ntmps24
 go_wp2_with (first
   | (go_at_call 34
      have hal:Below w.heap.size w ((w.alloc (.cells #[.int .i64 H,.int .i64 W,.int .i64 C] 30)).alloc (.cells #[x0,x1,x2,.int .i64 K,.int .i64 S,.int .i64 P,.int .i64 O,.int .i8 Z,x8,.slice WA nW cW,.slice BA nB cB,x11,x12,x13,x14,x15,x16,x17,x18] 35)):=((Below.refl _ _).alloc (by first | exact le_refl _ | (simp;done) | (simp;omega)) _).alloc (by first | exact le_refl _ | (simp;done) | (simp;omega)) _
      refine (conv_to H W C x0 x1 x2 x8 x11 x12 x13 x14 x15 x16 x17 x18 K S P O Z WA BA nW cW nB cB _ _ HE.out HV.out _).mono ?_
      rintro e w1 ⟨rfl,hb⟩
      have hh:Below w.heap.size w w1:=hal.trans (hb.mono hal.size)
      have qTB:=(zau H W C 30) w
      try simp only [World.size_alloc] at qTB
      have TB:=hid ((qTB.below (B':=w.heap.size+1) (by omega) (((Below.refl _ _).alloc (by first | exact le_refl _ | (simp;done) | (simp;omega)) _).mono (by simp))).below (by first | (simp;done) | (simp;omega)) hb)
      have yTB:w.heap.size < w1.heap.size:=by have:=hb.size;simp at this;omega
      clear qTB
      have qTN:=(za6.new x0 x1 x2 x8 x11 x12 x13 x14 x15 x16 x17 x18 K S P O Z WA BA nW cW nB cB 35) (w.alloc (.cells #[.int .i64 H,.int .i64 W,.int .i64 C] 30))
      try simp only [World.size_alloc] at qTN
      have TN:=hid (qTN.below (by first | (simp;done) | (simp;omega)) hb)
      have yTN:w.heap.size+1 < w1.heap.size:=by have:=hb.size;simp at this;omega
      clear qTN
      have HBW:Hid (Below w.heap.size w w1):=hid hh
      obtain⟨tbp0,tbp1,tbp2⟩:=TB.out
      clear hb hh hal)
   | (refine wpList_load_mid rfl 35 (.tmp 3) rfl (w.heap.size+1) 0 rfl [x0,x1,x2,.int .i64 K,.int .i64 S,.int .i64 P,.int .i64 O,.int .i8 Z,x8,.slice WA nW cW,.slice BA nB cB,x11,x12,x13,x14,x15,x16,x17,x18] _ (TN0.out) Tryd.underlying35 rfl (by kernel_rfl) ?_)
   | (refine wpList_load_mid rfl 35 (.tmp 3) rfl (w.heap.size+1) 0 rfl [x0,x1,x2,.int .i64 K,.int .i64 S,.int .i64 P,.int .i64 O,.int .i8 Z,x8,.slice WA nW cW,.slice BA nB cB,x11,x12,x13,x14,x15,x16,x17,x18] _ (TN.out) Tryd.underlying35 rfl (by kernel_rfl) ?_))
 have ySS:w1.heap.size < (w1.alloc (.cells #[.int .i64 s1,.int .i64 s2,.int .i64 s3] 30)).heap.size:=by simp
 have HSS:=hid (zau s1 s2 s3 30 w1)
 have hal:=(Below.refl w1.heap.size w1).alloc (le_refl _) (.cells #[.int .i64 s1,.int .i64 s2,.int .i64 s3] 30)
 replace TB:=hid (TB.out.below yTB hal)
 replace TN:=hid (TN.out.below yTN hal)
 replace HBW:=hid (HBW.out.trans (hal.mono HBW.out.size))
 replace yTB:=Nat.lt_of_lt_of_le yTB hal.size
 replace yTN:=Nat.lt_of_lt_of_le yTN hal.size
 clear hal
 refine wp_region_held_drew (S:=fun W'=>zbe (w1.heap.size) s1 s2 s3 W'∧zbe (w.heap.size) H W C W'∧za6 (w.heap.size+1) x0 x1 x2 x8 x11 x12 x13 x14 x15 x16 x17 x18 K S P O Z WA BA nW cW nB cB W') (by kernel_rfl) ⟨HSS.out.below ySS (Below.refl _ _).drew,TB.out.below yTB (Below.refl _ _).drew,TN.out.below yTN (Below.refl _ _).drew⟩ (fun hHeld=>?_)
 refine Tk.y 0 (v:=?_) rfl ?_ ?_
 rotate_left
 ·intro wS hSw
  obtain⟨⟨q0,q1,q2⟩, -, -⟩:=hSw
  first | (go_simp;done) | (go_simp;with_reducible rfl)
 try simp only [Tk.put]
 refine Tk.x 2 rfl ?_
 try simp only [Tk.put]
 refine Tk.y 3 (v:=?_) rfl ?_ ?_
 rotate_left
 ·intro wS hSw
  have q0:=hSw.2.2.at 3 (.int .i64 K) rfl
  first | (go_simp;done) | (go_simp;with_reducible rfl)
 try simp only [Tk.put]
 refine Tk.x 5 rfl ?_
 try simp only [Tk.put]
 refine Tk.y 6 (v:=?_) rfl ?_ ?_
 rotate_left
 ·intro wS hSw
  have q0:=hSw.2.2.at 3 (.int .i64 K) rfl
  first | (go_simp;done) | (go_simp;with_reducible rfl)
 try simp only [Tk.put]
 refine Tk.x 8 rfl ?_
 try simp only [Tk.put]
 refine Tk.y 9 (v:=?_) rfl ?_ ?_
 rotate_left
 ·intro wS hSw
  obtain⟨-,⟨q0,q1,q2⟩, -⟩:=hSw
  first | (go_simp;done) | (go_simp;with_reducible rfl)
 try simp only [Tk.put]
 refine Tk.s 1 rfl (fun K hK=>?_)
 go_simp
 go_at_call 23
 refine (zas s1 s2 s3 n HN.out _).mono ?_
 rintro e w3 ⟨rfl,hb⟩
 replace hb:=(Below.refl _ _).drew.trans hb
 have HSS2:=hid (HSS.out.below ySS hb)
 have TB2:=hid (TB.out.below yTB hb)
 have TN2:=hid (TN.out.below yTN hb)
 have HBW2:=hid (HBW.out.trans (hb.mono HBW.out.size))
 clear hHeld
 dsimp only
 refine hK.out _ _ ?_ (fun hHeld=>?_)
 ·exact⟨HSS2.out,TB2.out,TN2.out⟩
 clear hK K
 try simp only [Tk.put]
 refine Tk.x 4 rfl ?_
 try simp only [Tk.put]
 refine Tk.x 7 rfl ?_
 try simp only [Tk.put]
 refine Tk.x 10 rfl ?_
 try simp only [Tk.put]
 refine Tk.x 11 rfl ?_
 try simp only [Tk.put]
 refine wpAnyH_done (by kernel_rfl) ?_ _
 go_wp2_with fail
 go_ret
 exact⟨rfl,HBW2.out⟩
end CLower
end
end Go.Proofs.YtjhlkmnpfibgaaaDoor
