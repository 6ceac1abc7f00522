/- -/
import Derived.Test.YtoffcaldhojjoaaGreatDoorGVU32
open Go.Lib (hid)
open Nat (le_refl lt_of_succ_lt lt_succ_self)
set_option linter.unusedVariables false
set_option linter.unusedSimpArgs false
set_option maxRecDepth 100000
set_option maxHeartbeats 16000000
namespace Go.Proofs.YtoffcaldhojjoaaGreatDoor
namespace CConv
end CConv
namespace CFix
end CFix
namespace CGraph
end CGraph
namespace CKind
end CKind
namespace CSat
end CSat
namespace CSpan
end CSpan
namespace CTensor
end CTensor
open Go Go.ChangeShapes Go.WideShapes Go.ChangeAt Go.RowKit Go.Deep
section
namespace CGuard
open Plain CSat CFix CShape CTensor CConv CSpan CKind CGraph CJoin
theorem rgn_join {w:World} (x:Nd) (l h l2 h2:Int) (bd:(-128≤l∧l≤127)∧(-128≤h∧h≤127)∧(-128≤l2∧l2≤127)∧(-128≤h2∧h2≤127)) (ok:NBd x.Z x.Y x.m1 x.z1 x.m2 x.z2 x.lo x.hi) (he:x.checkZ=0) (hk:x.kd=6) (hlh:l≤h) (hlh2:l2≤h2) :
  Calls Tryz.prog 30 #[.agg x.val,.agg #[.int .i8 l,.int .i8 h],.agg #[.int .i8 l2,.int .i8 h2]] w fun e w'=>e=.returned (.tuple #[.agg #[.int .i8 (oneZ l l2 x.Z x.Y x.m1 x.s1 x.z1 x.m2 x.s2 x.lo x.hi),.int .i8 (oneZ h h2 x.Z x.Y x.m1 x.s1 x.z1 x.m2 x.s2 x.lo x.hi)],.int .i64 (0)])∧Below w.heap.size w w':=by
 obtain⟨hg0,hw0⟩:=zau.new w x l h l2 h2
 have HG:=hid hg0
 have HW:=hid hw0
 have hck:=zar x
 unfold zbh at hck
 rw [he] at hck
 have dlh:decide (h < l)=false:=by simp;omega
 have dlh2:¬ h < l:=by omega
 have dk1:(x.kd == 1)=false:=by simp [hk]
 have dk2:(x.kd == 2)=false:=by simp [hk]
 have dk3:(x.kd == 3)=false:=by simp [hk]
 have dk6:(x.kd == 6)=true:=by simp [hk]
 have dk7:(x.kd == 7)=false:=by simp [hk]
 have dk8:(x.kd == 8)=false:=by simp [hk]
 have dlh3:decide (h2 < l2)=false:=by simp;omega
 have dlh4:¬ h2 < l2:=by omega
 have CO1:Hid (∀ w:World,Calls Tryz.prog 51 #[.int .i8 l,.int .i8 l2,.agg x.val] w fun e w'=>e=.returned (.int .i8 (oneZ l l2 x.Z x.Y x.m1 x.s1 x.z1 x.m2 x.s2 x.lo x.hi))∧Below w.heap.size w w'):=hid (fun w=>refOne_to l l2 bd.1.1 bd.1.2 bd.2.2.1.1 bd.2.2.1.2 (.int .i64 x.kd) (.int .i64 x.na) (.int .i64 x.nb) x.K x.S x.P x.O x.Z x.Y x.WA x.BA x.nW x.cW x.nB x.cB x.m1 x.s1 x.z1 x.m2 x.s2 x.z2 x.lo x.hi ok _ rfl w)
 have CO2:Hid (∀ w:World,Calls Tryz.prog 51 #[.int .i8 h,.int .i8 h2,.agg x.val] w fun e w'=>e=.returned (.int .i8 (oneZ h h2 x.Z x.Y x.m1 x.s1 x.z1 x.m2 x.s2 x.lo x.hi))∧Below w.heap.size w w'):=hid (fun w=>refOne_to h h2 bd.2.1.1 bd.2.1.2 bd.2.2.2.1 bd.2.2.2.2 (.int .i64 x.kd) (.int .i64 x.na) (.int .i64 x.nb) x.K x.S x.P x.O x.Z x.Y x.WA x.BA x.nW x.cW x.nB x.cB x.m1 x.s1 x.z1 x.m2 x.s2 x.z2 x.lo x.hi ok _ rfl w)
 generalize oneZ l l2 x.Z x.Y x.m1 x.s1 x.z1 x.m2 x.s2 x.lo x.hi=ra at CO1 ⊢
 generalize oneZ h h2 x.Z x.Y x.m1 x.s1 x.z1 x.m2 x.s2 x.lo x.hi=rb at CO2 ⊢
 have CK:=hid hck
 clear hg0 hw0 hck he hk
 go_enter Tryz.func30,Tryz.ntmps30
 go_upto_region 1 with fail
 generalize ((((w.alloc (.cells x.val 61)).alloc (.cells #[.int .i8 l,.int .i8 h] 70)).alloc (.cells #[.int .i8 l2,.int .i8 h2] 70)).alloc (.cells #[.int .i8 0,.int .i8 0] 70))=W0 at HG HW ⊢
 have c0:=HG.out.1.at 0 _ rfl
 have c5:=HG.out.1.at 5 _ rfl
 have c7:=HG.out.1.at 7 _ rfl
 have c9:=HG.out.1.at 9 _ rfl
 have c10:=HG.out.1.at 10 _ rfl
 have c11:=HG.out.1.at 11 _ rfl
 have c12:=HG.out.1.at 12 _ rfl
 have c13:=HG.out.1.at 13 _ rfl
 have c17:=HG.out.1.at 17 _ rfl
 have c18:=HG.out.1.at 18 _ rfl
 obtain⟨a0,a1⟩:=HG.out.2.1
 obtain⟨b0,b1⟩:=HG.out.2.2.1
 go_wp2_with (refine zac rfl _ rfl w.heap.size x rfl HG.out.1 ?_)
 go_at_call 22
 refine (CK.out _).mono ?_
 rintro e w1 ⟨rfl,hb⟩
 replace HG:=hid (HG.out.below hb)
 replace HW:=hid (HW.out.trans (hb.mono HW.out.size))
 clear hb c0 c5 c7 c9 c10 c11 c12 c13 c17 c18 a0 a1 b0 b1
 have c0:=HG.out.1.at 0 _ rfl
 have c5:=HG.out.1.at 5 _ rfl
 have c7:=HG.out.1.at 7 _ rfl
 have c9:=HG.out.1.at 9 _ rfl
 have c10:=HG.out.1.at 10 _ rfl
 have c11:=HG.out.1.at 11 _ rfl
 have c12:=HG.out.1.at 12 _ rfl
 have c13:=HG.out.1.at 13 _ rfl
 have c17:=HG.out.1.at 17 _ rfl
 have c18:=HG.out.1.at 18 _ rfl
 obtain⟨a0,a1⟩:=HG.out.2.1
 obtain⟨b0,b1⟩:=HG.out.2.2.1
 go_upto_region 15 with (refine zac rfl _ rfl w.heap.size x rfl HG.out.1 ?_)
 have HSZ:=hid HG.out.2.2.2.2
 have HFR:=hid HG.out.2.2.2.1
 refine wp_region_held_drew (S:=fun w'=>NdAt w.heap.size x w'∧RchAt (w.heap.size+1) l h w'∧RchAt (w.heap.size+2) l2 h2 w') (by kernel_rfl) ⟨HG.out.1,HG.out.2.1,HG.out.2.2.1⟩ (fun hHeld=>?_)
 replace HSZ:Hid (w.heap.size+4≤w1.drew.heap.size):=hid HSZ.out
 replace HFR:=hid (HFR.out.below (B':=w1.heap.size) (by have:=HSZ.out;simp at this;omega) (Below.refl _ _).drew)
 replace HW:=hid HW.out.drew
 clear HG c0 c5 c7 c9 c10 c11 c12 c13 c17 c18 a0 a1 b0 b1
 generalize w1.drew=Wd at HSZ HFR HW hHeld ⊢
 refine Tk.x 0 rfl ?_
 try simp only [Tk.put]
 refine Tk.y 1 (v:=.int .i8 l) rfl ?_ ?_
 ·intro wS hSw
  obtain⟨-,⟨q1,q2⟩,⟨q3,q4⟩⟩:=hSw
  first | (go_simp;done) | (go_simp;with_reducible rfl)
 try simp only [Tk.put]
 refine Tk.x 2 rfl ?_
 try simp only [Tk.put]
 refine Tk.y 3 (v:=.int .i8 l2) rfl ?_ ?_
 ·intro wS hSw
  obtain⟨-,⟨q1,q2⟩,⟨q3,q4⟩⟩:=hSw
  first | (go_simp;done) | (go_simp;with_reducible rfl)
 try simp only [Tk.put]
 refine Tk.t 4 (v:=.agg x.val) rfl (zav _ rfl (by rfl) _ x rfl (fun _ q=>q.1)) (by assumption) ?_
 try simp only [Tk.put]
 refine Tk.x 6 rfl ?_
 try simp only [Tk.put]
 refine Tk.y 7 (v:=.int .i8 h) rfl ?_ ?_
 ·intro wS hSw
  obtain⟨-,⟨q1,q2⟩,⟨q3,q4⟩⟩:=hSw
  first | (go_simp;done) | (go_simp;with_reducible rfl)
 try simp only [Tk.put]
 refine Tk.x 8 rfl ?_
 try simp only [Tk.put]
 refine Tk.y 9 (v:=.int .i8 h2) rfl ?_ ?_
 ·intro wS hSw
  obtain⟨-,⟨q1,q2⟩,⟨q3,q4⟩⟩:=hSw
  first | (go_simp;done) | (go_simp;with_reducible rfl)
 try simp only [Tk.put]
 refine Tk.t 10 (v:=.agg x.val) rfl (zav _ rfl (by rfl) _ x rfl (fun _ q=>q.1)) (by assumption) ?_
 try simp only [Tk.put]
 refine Tk.s 5 rfl (fun K hK=>?_)
 go_simp
 go_at_call 51
 with_reducible refine (CO1.out _).mono ?_
 rintro e w2 ⟨rfl,hb⟩
 have hS2:=And.intro (hHeld.1.below (B:=Wd.heap.size) (by have:=HSZ.out;omega) hb) (And.intro (hHeld.2.1.below (B':=Wd.heap.size) (by have:=HSZ.out;omega) hb) (hHeld.2.2.below (B':=Wd.heap.size) (by have:=HSZ.out;omega) hb))
 replace HFR:=hid (HFR.out.below (B':=Wd.heap.size) (by have:=HSZ.out;omega) hb)
 replace HW:=hid (HW.out.trans (hb.mono HW.out.size))
 replace HSZ:=hid (Nat.le_trans HSZ.out hb.size)
 clear hb hHeld
 dsimp only
 refine hK.out _ _ hS2 (fun hHeld=>?_)
 clear hK K hS2
 try simp only [Tk.put]
 refine Tk.s 11 rfl (fun K hK=>?_)
 go_simp
 go_at_call 51
 with_reducible refine (CO2.out _).mono ?_
 rintro e w3 ⟨rfl,hb⟩
 have hS2:=And.intro (hHeld.1.below (B:=w2.heap.size) (by have:=HSZ.out;omega) hb) (And.intro (hHeld.2.1.below (B':=w2.heap.size) (by have:=HSZ.out;omega) hb) (hHeld.2.2.below (B':=w2.heap.size) (by have:=HSZ.out;omega) hb))
 replace HFR:=hid (HFR.out.below (B':=w2.heap.size) (by have:=HSZ.out;omega) hb)
 replace HW:=hid (HW.out.trans (hb.mono HW.out.size))
 replace HSZ:=hid (Nat.le_trans HSZ.out hb.size)
 clear hb hHeld
 dsimp only
 refine hK.out _ _ hS2 (fun hHeld=>?_)
 clear hK K hS2
 try simp only [Tk.put]
 refine Tk.x 12 rfl ?_
 try simp only [Tk.put]
 obtain⟨⟨z0,z1⟩,z2,z3⟩:=HFR.out
 refine Tk.s 13 rfl (fun K hK=>?_)
 go_simp
 refine hK.out _ _ ?_ (fun hHeld=>?_)
 ·exact⟨zcf (zcf hHeld.1 (by omega)) (by omega),za9 (za9 hHeld.2.1 (by omega)) (by omega),za9 (za9 hHeld.2.2 (by omega)) (by omega)⟩
 clear hK K
 try simp only [Tk.put]
 refine Tk.x 14 rfl ?_
 try simp only [Tk.put]
 refine wpAnyH_done (by kernel_rfl) ?_ _
 clear hHeld
 go_wp2_with fail
 refine bodyPost_ret (Kit.zaa rfl _ _ (w.heap.size+3) 0 [.int .i8 (ra),.int .i8 (rb)] _ rfl (Kit.zaq (by go_cell) (by go_cell)) Tryz.underlying70 rfl (by kernel_rfl)) rfl ?_
 exact⟨rfl,(HW.out.setCell (p:=⟨w.heap.size+3,0,none⟩) (by simp) _).setCell (p:=⟨w.heap.size+3,1,none⟩) (by simp) _⟩
end CGuard
end
section
namespace CJoin
open Plain CSat CFix CShape CTensor CConv
theorem one_to (x y:Int) (hx1 : -128≤x) (hx2:x≤127) (hy1 : -128≤y) (hy2:y≤127) (x0 x1 x2:Value) (K S P O Z Y:Int) (WA BA:Option Addr) (nW cW nB cB:Nat) (m1 s1 z1 m2 s2 z2 lo hi:Int) (hnb:NBd Z Y m1 z1 m2 z2 lo hi) (R:Int) (hR:oneZ x y Z Y m1 s1 z1 m2 s2 lo hi=R) (w:World) :
  Calls Tryz.prog 81 #[.int .i8 x,.int .i8 y,.agg #[x0,x1,x2,.int .i64 K,.int .i64 S,.int .i64 P,.int .i64 O,.int .i8 Z,.int .i8 Y,.slice WA nW cW,.slice BA nB cB,.int .i32 m1,.int .i64 s1,.int .i8 z1,.int .i32 m2,.int .i64 s2,.int .i8 z2,.int .i8 lo,.int .i8 hi]] w fun e w'=>e=.returned (.int .i8 R)∧Below w.heap.size w w':=by
 obtain⟨⟨hZ1,hZ2⟩,⟨hY1,hY2⟩,⟨hm3,hm1⟩,⟨hz1,hz2⟩,⟨hm4,hm2⟩,⟨hz3,hz4⟩,⟨hl1,hl2⟩,⟨hh1,hh2⟩⟩:=hnb
 cases hh:(za0 m1 s1 && za0 m2 s2)
 ·unfold oneZ at hR
  rw [hh,if_neg (by decide)] at hR
  subst hR
  have HH:=hid hh
  clear hh
  go_enter Tryz.func81,Tryz.ntmps81
  go_wp2_with (first
  | (go_at_call 92
     have hal:Below w.heap.size w (w.alloc (.cells #[x0,x1,x2,.int .i64 K,.int .i64 S,.int .i64 P,.int .i64 O,.int .i8 Z,.int .i8 Y,.slice WA nW cW,.slice BA nB cB,.int .i32 m1,.int .i64 s1,.int .i8 z1,.int .i32 m2,.int .i64 s2,.int .i8 z2,.int .i8 lo,.int .i8 hi] 61)):=(Below.refl _ _).alloc (by first | exact le_refl _ | (simp;done) | (simp;omega)) _
     refine (scales_to x0 x1 x2 K S P O Z Y WA BA nW cW nB cB m1 s1 z1 m2 s2 z2 lo hi _).mono ?_
     rintro e w1 ⟨rfl,hb⟩
     have hh:Below w.heap.size w w1:=hal.trans (hb.mono hal.size)
     have qTN:=(zay.new x0 x1 x2 (.int .i8 Y) (.int .i32 m1) (.int .i64 s1) (.int .i8 z1) (.int .i32 m2) (.int .i64 s2) (.int .i8 z2) (.int .i8 lo) (.int .i8 hi) K S P O Z WA BA nW cW nB cB 61) w
     try simp only [World.size_alloc] at qTN
     have TN:=hid (qTN.below (by first | (simp;done) | (simp;omega)) hb)
     have yTN:w.heap.size < w1.heap.size:=by have:=hb.size;simp at this;omega
     clear qTN
     have HBW:Hid (Below w.heap.size w w1):=hid hh
     rw [HH.out]
     clear hb hh hal)
  | (refine wpList_load_mid rfl 61 (.tmp 5) rfl (w.heap.size) 0 rfl [x0,x1,x2,.int .i64 K,.int .i64 S,.int .i64 P,.int .i64 O,.int .i8 Z,.int .i8 Y,.slice WA nW cW,.slice BA nB cB,.int .i32 m1,.int .i64 s1,.int .i8 z1,.int .i32 m2,.int .i64 s2,.int .i8 z2,.int .i8 lo,.int .i8 hi] _ (zay.new x0 x1 x2 (.int .i8 Y) (.int .i32 m1) (.int .i64 s1) (.int .i8 z1) (.int .i32 m2) (.int .i64 s2) (.int .i8 z2) (.int .i8 lo) (.int .i8 hi) K S P O Z WA BA nW cW nB cB 61 w) Tryz.underlying61 rfl (by kernel_rfl) ?_))
  go_ret
  exact⟨rfl,HBW.out⟩
 ·obtain⟨hr1,hr2⟩:za0 m1 s1=true∧za0 m2 s2=true:=by simpa using hh
  obtain⟨b1,b2⟩:=round_term hx1 hx2 hZ1 hZ2 hm1 hr1
  obtain⟨b3,b4⟩:=round_term hy1 hy2 hY1 hY2 hm2 hr2
  unfold oneZ at hR
  rw [hh,if_pos rfl] at hR
  obtain⟨t1,ht1⟩:∃ t1,zbb ((x - Z) * m1) s1.toNat=t1:=⟨_,rfl⟩
  obtain⟨t2,ht2⟩:∃ t2,zbb ((y - Y) * m2) s2.toNat=t2:=⟨_,rfl⟩
  rw [ht1] at b1 b2 hR
  rw [ht2] at b3 b4 hR
  have w1:IntKind.i64.wrap (t1+t2)=t1+t2:=IntWalk.i64_in _ (by omega)
  have w2:IntKind.i64.wrap (t1+t2+z1)=t1+t2+z1:=IntWalk.i64_in _ (by omega)
  have w3:IntKind.i64.wrap z1=z1:=IntWalk.i64_in _ (by omega)
  have HH:=hid hh
  have HR1:=hid hr1
  have HR2:=hid hr2
  have HT1:=hid ht1
  have HT2:=hid ht2
  have HC:=hid hR
  clear hh hr1 hr2 ht1 ht2 hR
  go_enter Tryz.func81,Tryz.ntmps81
  go_wp2_with (first
  | (go_at_call 92
     have hal:Below w.heap.size w (w.alloc (.cells #[x0,x1,x2,.int .i64 K,.int .i64 S,.int .i64 P,.int .i64 O,.int .i8 Z,.int .i8 Y,.slice WA nW cW,.slice BA nB cB,.int .i32 m1,.int .i64 s1,.int .i8 z1,.int .i32 m2,.int .i64 s2,.int .i8 z2,.int .i8 lo,.int .i8 hi] 61)):=(Below.refl _ _).alloc (by first | exact le_refl _ | (simp;done) | (simp;omega)) _
     refine (scales_to x0 x1 x2 K S P O Z Y WA BA nW cW nB cB m1 s1 z1 m2 s2 z2 lo hi _).mono ?_
     rintro e w1 ⟨rfl,hb⟩
     have hh:Below w.heap.size w w1:=hal.trans (hb.mono hal.size)
     have qTN:=(zay.new x0 x1 x2 (.int .i8 Y) (.int .i32 m1) (.int .i64 s1) (.int .i8 z1) (.int .i32 m2) (.int .i64 s2) (.int .i8 z2) (.int .i8 lo) (.int .i8 hi) K S P O Z WA BA nW cW nB cB 61) w
     try simp only [World.size_alloc] at qTN
     have TN:=hid (qTN.below (by first | (simp;done) | (simp;omega)) hb)
     have yTN:w.heap.size < w1.heap.size:=by have:=hb.size;simp at this;omega
     clear qTN
     have HBW:Hid (Below w.heap.size w w1):=hid hh
     rw [HH.out]
     clear hb hh hal)
  | (refine wpList_load_mid rfl 61 (.tmp 5) rfl (w.heap.size) 0 rfl [x0,x1,x2,.int .i64 K,.int .i64 S,.int .i64 P,.int .i64 O,.int .i8 Z,.int .i8 Y,.slice WA nW cW,.slice BA nB cB,.int .i32 m1,.int .i64 s1,.int .i8 z1,.int .i32 m2,.int .i64 s2,.int .i8 z2,.int .i8 lo,.int .i8 hi] _ (zay.new x0 x1 x2 (.int .i8 Y) (.int .i32 m1) (.int .i64 s1) (.int .i8 z1) (.int .i32 m2) (.int .i64 s2) (.int .i8 z2) (.int .i8 lo) (.int .i8 hi) K S P O Z WA BA nW cW nB cB 61 w) Tryz.underlying61 rfl (by kernel_rfl) ?_))
  refine wp_region_held_drew (S:=fun w'=>zay w.heap.size x0 x1 x2 (.int .i8 Y) (.int .i32 m1) (.int .i64 s1) (.int .i8 z1) (.int .i32 m2) (.int .i64 s2) (.int .i8 z2) (.int .i8 lo) (.int .i8 hi) K S P O Z WA BA nW cW nB cB w') (by kernel_rfl) TN.out (fun hHeld=>?_)
  replace HBW:Hid (Below w.heap.size w w1.drew):=hid HBW.out.drew
  clear TN
  replace yTN:w.heap.size < w1.drew.heap.size:=yTN
  generalize w1.drew=W1 at HBW yTN hHeld ⊢
  refine Tk.x 0 rfl ?_
  try simp only [Tk.put]
  refine Tk.x 1 rfl ?_
  try simp only [Tk.put]
  refine Tk.y 2 (v:=?_) rfl ?_ ?_
  rotate_left
  ·intro wS hSw
   have q7:=hSw.at 7 _ rfl
   clear hSw
   first | (go_simp;done) | (go_simp;with_reducible rfl)
  try simp only [Tk.put]
  refine Tk.x 3 rfl ?_
  try simp only [Tk.put]
  refine Tk.y 4 (v:=?_) rfl ?_ ?_
  rotate_left
  ·intro wS hSw
   have q11:=hSw.at 11 _ rfl;have q12:=hSw.at 12 _ rfl;have q13:=hSw.at 13 _ rfl
   clear hSw
   first | (go_simp;done) | (go_simp;with_reducible rfl)
  try simp only [Tk.put]
  refine Tk.x 6 rfl ?_
  try simp only [Tk.put]
  refine Tk.x 7 rfl ?_
  try simp only [Tk.put]
  refine Tk.y 8 (v:=?_) rfl ?_ ?_
  rotate_left
  ·intro wS hSw
   have q8:=hSw.at 8 _ rfl
   clear hSw
   first | (go_simp;done) | (go_simp;with_reducible rfl)
  try simp only [Tk.put]
  refine Tk.x 9 rfl ?_
  try simp only [Tk.put]
  refine Tk.y 10 (v:=?_) rfl ?_ ?_
  rotate_left
  ·intro wS hSw
   have q14:=hSw.at 14 _ rfl;have q15:=hSw.at 15 _ rfl;have q16:=hSw.at 16 _ rfl
   clear hSw
   first | (go_simp;done) | (go_simp;with_reducible rfl)
  try simp only [Tk.put]
  refine Tk.x 13 rfl ?_
  try simp only [Tk.put]
  refine Tk.x 14 rfl ?_
  try simp only [Tk.put]
  refine Tk.y 15 (v:=?_) rfl ?_ ?_
  rotate_left
  ·intro wS hSw
   have q13:=hSw.at 13 _ rfl
   clear hSw
   first | (go_simp;done) | (go_simp;with_reducible rfl)
  try simp only [Tk.put]
  refine Tk.x 16 rfl ?_
  try simp only [Tk.put]
  refine Tk.x 18 rfl ?_
  try simp only [Tk.put]
  refine Tk.y 19 (v:=?_) rfl ?_ ?_
  rotate_left
  ·intro wS hSw
   have q17:=hSw.at 17 _ rfl
   clear hSw
   first | (go_simp;done) | (go_simp;with_reducible rfl)
  try simp only [Tk.put]
  refine Tk.x 20 rfl ?_
  try simp only [Tk.put]
  refine Tk.y 21 (v:=?_) rfl ?_ ?_
  rotate_left
  ·intro wS hSw
   have q18:=hSw.at 18 _ rfl
   clear hSw
   first | (go_simp;done) | (go_simp;with_reducible rfl)
  try simp only [Tk.put]
  refine Tk.s 5 rfl (fun Kq hK=>?_)
  go_simp
  go_at_call 94
  refine (scaled_to x Z m1 s1 z1 t1 hx1 hx2 hZ1 hZ2 hm1 HR1.out HT1.out _).mono ?_
  rintro e W2 ⟨rfl,hb1⟩
  have hS1:zay w.heap.size x0 x1 x2 (.int .i8 Y) (.int .i32 m1) (.int .i64 s1) (.int .i8 z1) (.int .i32 m2) (.int .i64 s2) (.int .i8 z2) (.int .i8 lo) (.int .i8 hi) K S P O Z WA BA nW cW nB cB W2:=hHeld.below yTN hb1
  replace HBW:=hid (HBW.out.trans (hb1.mono HBW.out.size))
  replace yTN:=Nat.lt_of_lt_of_le yTN hb1.size
  clear hHeld hb1
  dsimp only
  refine hK.out _ _ ?_ (fun hHeld=>?_)
  ·exact hS1
  clear hK Kq
  try simp only [Tk.put]
  refine Tk.s 11 rfl (fun Kq hK=>?_)
  go_simp
  go_at_call 94
  refine (scaled_to y Y m2 s2 z2 t2 hy1 hy2 hY1 hY2 hm2 HR2.out HT2.out _).mono ?_
  rintro e W3 ⟨rfl,hb1⟩
  have hS1:zay w.heap.size x0 x1 x2 (.int .i8 Y) (.int .i32 m1) (.int .i64 s1) (.int .i8 z1) (.int .i32 m2) (.int .i64 s2) (.int .i8 z2) (.int .i8 lo) (.int .i8 hi) K S P O Z WA BA nW cW nB cB W3:=hHeld.below yTN hb1
  replace HBW:=hid (HBW.out.trans (hb1.mono HBW.out.size))
  replace yTN:=Nat.lt_of_lt_of_le yTN hb1.size
  clear hHeld hb1
  dsimp only
  refine hK.out _ _ ?_ (fun hHeld=>?_)
  ·exact hS1
  clear hK Kq
  try simp only [Tk.put]
  refine Tk.x 12 rfl ?_
  try simp only [Tk.put]
  refine Tk.x 17 rfl ?_
  try simp only [Tk.put]
  refine Tk.s 22 rfl (fun Kq hK=>?_)
  go_simp
  go_at_call 93
  refine (jclamp_to _ lo hi R HC.out hl1 hl2 hh1 hh2 _).mono ?_
  rintro e W4 ⟨rfl,rfl⟩
  dsimp only
  refine hK.out _ _ ?_ (fun hHeld=>?_)
  ·exact hHeld
  clear hK Kq
  try simp only [Tk.put]
  refine Tk.x 23 rfl ?_
  try simp only [Tk.put]
  refine wpAnyH_done (by kernel_rfl) ?_ _
  go_wp2_with fail
  go_ret
  exact⟨rfl,HBW.out⟩
end CJoin
end
end Go.Proofs.YtoffcaldhojjoaaGreatDoor
