/- -/
import Derived.Test.YtceehogkckdbkaaDoorGF23
open Go.Lib (hid)
open Nat (le_refl lt_of_succ_lt lt_succ_self)
set_option linter.unusedVariables false
set_option linter.unusedSimpArgs false
set_option maxRecDepth 100000
set_option maxHeartbeats 16000000
namespace Go.Proofs.YtceehogkckdbkaaDoor
namespace CConv
end CConv
namespace CFix
end CFix
namespace CSat
end CSat
namespace CShape
end CShape
namespace CTensor
end CTensor
open Go Go.ChangeShapes Go.WideShapes Go.ChangeAt Go.RowKit Go.Deep
section
namespace CJoin
open Plain CSat CFix CShape CTensor CConv
theorem refOne_to (x y:Int) (hx1 : -128≤x) (hx2:x≤127) (hy1 : -128≤y) (hy2:y≤127) (x0 x1 x2:Value) (K S P O Z Y:Int) (WA BA:Option Addr) (nW cW nB cB:Nat) (m1 s1 z1 m2 s2 z2 lo hi:Int) (hnb:NBd Z Y m1 z1 m2 z2 lo hi) (R:Int) (hR:oneZ x y Z Y m1 s1 z1 m2 s2 lo hi=R) (w:World) :
  Calls Tryd.prog 30 #[.int .i8 x,.int .i8 y,.agg #[x0,x1,x2,.int .i64 K,.int .i64 S,.int .i64 P,.int .i64 O,.int .i8 Z,.int .i8 Y,.slice WA nW cW,.slice BA nB cB,.int .i32 m1,.int .i64 s1,.int .i8 z1,.int .i32 m2,.int .i64 s2,.int .i8 z2,.int .i8 lo,.int .i8 hi]] w fun e w'=>e=.returned (.int .i8 R)∧Below w.heap.size w w':=by
 obtain⟨⟨hZ1,hZ2⟩,⟨hY1,hY2⟩,⟨hm3,hm1⟩,⟨hz1,hz2⟩,⟨hm4,hm2⟩,⟨hz3,hz4⟩,⟨hl1,hl2⟩,⟨hh1,hh2⟩⟩:=hnb
 cases h1:zak m1 s1 <;> cases h2:zak m2 s2
 ·have H1:=hid h1
  have H2:=hid h2
  unfold oneZ at hR
  rw [h1,h2] at hR
  rw [if_neg (by decide)] at hR
  subst hR
  clear h1 h2
  go_enter Tryd.func30,Tryd.ntmps30
  go_wp2_with (first
  | (go_at_call 60
     have hal:Below w.heap.size w (w.alloc (.cells #[x0,x1,x2,.int .i64 K,.int .i64 S,.int .i64 P,.int .i64 O,.int .i8 Z,.int .i8 Y,.slice WA nW cW,.slice BA nB cB,.int .i32 m1,.int .i64 s1,.int .i8 z1,.int .i32 m2,.int .i64 s2,.int .i8 z2,.int .i8 lo,.int .i8 hi] 29)):=(Below.refl _ _).alloc (by first | exact le_refl _ | (simp;done) | (simp;omega)) _
     refine (zax _ _ _ _).mono ?_
     rintro e w1 ⟨rfl,hb⟩
     have hh:Below w.heap.size w w1:=hal.trans (hb.mono hal.size)
     have qTN:=(zao.new x0 x1 x2 (.int .i8 Y) (.int .i32 m1) (.int .i64 s1) (.int .i8 z1) (.int .i32 m2) (.int .i64 s2) (.int .i8 z2) (.int .i8 lo) (.int .i8 hi) K S P O Z WA BA nW cW nB cB 29) w
     try simp only [World.size_alloc] at qTN
     have TN:=hid (qTN.below (by first | (simp;done) | (simp;omega)) hb)
     have yTN:w.heap.size < w1.heap.size:=by have:=hb.size;simp at this;omega
     clear qTN
     have HBW:Hid (Below w.heap.size w w1):=hid hh
     rw [H1.out]
     have n7:=TN.out.at 7 _ rfl
     have n8:=TN.out.at 8 _ rfl
     have n11:=TN.out.at 11 _ rfl
     have n12:=TN.out.at 12 _ rfl
     have n13:=TN.out.at 13 _ rfl
     have n14:=TN.out.at 14 _ rfl
     have n15:=TN.out.at 15 _ rfl
     have n16:=TN.out.at 16 _ rfl
     have n17:=TN.out.at 17 _ rfl
     have n18:=TN.out.at 18 _ rfl
     clear hb hh hal))
  go_ret
  exact⟨rfl,HBW.out⟩
 ·have H1:=hid h1
  have H2:=hid h2
  unfold oneZ at hR
  rw [h1,h2] at hR
  rw [if_neg (by decide)] at hR
  subst hR
  clear h1 h2
  go_enter Tryd.func30,Tryd.ntmps30
  go_wp2_with (first
  | (go_at_call 60
     have hal:Below w.heap.size w (w.alloc (.cells #[x0,x1,x2,.int .i64 K,.int .i64 S,.int .i64 P,.int .i64 O,.int .i8 Z,.int .i8 Y,.slice WA nW cW,.slice BA nB cB,.int .i32 m1,.int .i64 s1,.int .i8 z1,.int .i32 m2,.int .i64 s2,.int .i8 z2,.int .i8 lo,.int .i8 hi] 29)):=(Below.refl _ _).alloc (by first | exact le_refl _ | (simp;done) | (simp;omega)) _
     refine (zax _ _ _ _).mono ?_
     rintro e w1 ⟨rfl,hb⟩
     have hh:Below w.heap.size w w1:=hal.trans (hb.mono hal.size)
     have qTN:=(zao.new x0 x1 x2 (.int .i8 Y) (.int .i32 m1) (.int .i64 s1) (.int .i8 z1) (.int .i32 m2) (.int .i64 s2) (.int .i8 z2) (.int .i8 lo) (.int .i8 hi) K S P O Z WA BA nW cW nB cB 29) w
     try simp only [World.size_alloc] at qTN
     have TN:=hid (qTN.below (by first | (simp;done) | (simp;omega)) hb)
     have yTN:w.heap.size < w1.heap.size:=by have:=hb.size;simp at this;omega
     clear qTN
     have HBW:Hid (Below w.heap.size w w1):=hid hh
     rw [H1.out]
     have n7:=TN.out.at 7 _ rfl
     have n8:=TN.out.at 8 _ rfl
     have n11:=TN.out.at 11 _ rfl
     have n12:=TN.out.at 12 _ rfl
     have n13:=TN.out.at 13 _ rfl
     have n14:=TN.out.at 14 _ rfl
     have n15:=TN.out.at 15 _ rfl
     have n16:=TN.out.at 16 _ rfl
     have n17:=TN.out.at 17 _ rfl
     have n18:=TN.out.at 18 _ rfl
     clear hb hh hal))
  go_ret
  exact⟨rfl,HBW.out⟩
 ·have H1:=hid h1
  have H2:=hid h2
  unfold oneZ at hR
  rw [h1,h2] at hR
  rw [if_neg (by decide)] at hR
  subst hR
  clear h1 h2
  go_enter Tryd.func30,Tryd.ntmps30
  go_wp2_with (first
  | (go_at_call 60
     have hal:Below w.heap.size w (w.alloc (.cells #[x0,x1,x2,.int .i64 K,.int .i64 S,.int .i64 P,.int .i64 O,.int .i8 Z,.int .i8 Y,.slice WA nW cW,.slice BA nB cB,.int .i32 m1,.int .i64 s1,.int .i8 z1,.int .i32 m2,.int .i64 s2,.int .i8 z2,.int .i8 lo,.int .i8 hi] 29)):=(Below.refl _ _).alloc (by first | exact le_refl _ | (simp;done) | (simp;omega)) _
     refine (zax _ _ _ _).mono ?_
     rintro e w1 ⟨rfl,hb⟩
     have hh:Below w.heap.size w w1:=hal.trans (hb.mono hal.size)
     have qTN:=(zao.new x0 x1 x2 (.int .i8 Y) (.int .i32 m1) (.int .i64 s1) (.int .i8 z1) (.int .i32 m2) (.int .i64 s2) (.int .i8 z2) (.int .i8 lo) (.int .i8 hi) K S P O Z WA BA nW cW nB cB 29) w
     try simp only [World.size_alloc] at qTN
     have TN:=hid (qTN.below (by first | (simp;done) | (simp;omega)) hb)
     have yTN:w.heap.size < w1.heap.size:=by have:=hb.size;simp at this;omega
     clear qTN
     have HBW:Hid (Below w.heap.size w w1):=hid hh
     rw [H1.out]
     have n7:=TN.out.at 7 _ rfl
     have n8:=TN.out.at 8 _ rfl
     have n11:=TN.out.at 11 _ rfl
     have n12:=TN.out.at 12 _ rfl
     have n13:=TN.out.at 13 _ rfl
     have n14:=TN.out.at 14 _ rfl
     have n15:=TN.out.at 15 _ rfl
     have n16:=TN.out.at 16 _ rfl
     have n17:=TN.out.at 17 _ rfl
     have n18:=TN.out.at 18 _ rfl
     clear hb hh hal)
  | (go_at_call 60
     have hal:Below w1.heap.size w1 w1:=Below.refl _ _
     refine (zax _ _ _ _).mono ?_
     rintro e w2 ⟨rfl,hb⟩
     have hh:Below w1.heap.size w1 w2:=hal.trans (hb.mono hal.size)
     replace TN:=hid (TN.out.below yTN hh)
     replace yTN:=Nat.lt_of_lt_of_le yTN hh.size
     replace HBW:=hid (HBW.out.trans (hh.mono HBW.out.size))
     clear n7 n8 n11 n12 n13 n14 n15 n16 n17 n18
     rw [H2.out]
     have n7:=TN.out.at 7 _ rfl
     have n8:=TN.out.at 8 _ rfl
     have n11:=TN.out.at 11 _ rfl
     have n12:=TN.out.at 12 _ rfl
     have n13:=TN.out.at 13 _ rfl
     have n14:=TN.out.at 14 _ rfl
     have n15:=TN.out.at 15 _ rfl
     have n16:=TN.out.at 16 _ rfl
     have n17:=TN.out.at 17 _ rfl
     have n18:=TN.out.at 18 _ rfl
     clear hb hh hal))
  go_ret
  exact⟨rfl,HBW.out⟩
 ·have hh:(zak m1 s1 && zak m2 s2)=true:=by rw [h1,h2];rfl
  obtain⟨hr1,hr2⟩:zak m1 s1=true∧zak m2 s2=true:=by simpa using hh
  obtain⟨b1,b2⟩:=round_term hx1 hx2 hZ1 hZ2 hm1 hr1
  obtain⟨b3,b4⟩:=round_term hy1 hy2 hY1 hY2 hm2 hr2
  unfold oneZ at hR
  rw [hh,if_pos rfl] at hR
  obtain⟨t1,ht1⟩:∃ t1,zas ((x - Z) * m1) s1.toNat=t1:=⟨_,rfl⟩
  obtain⟨t2,ht2⟩:∃ t2,zas ((y - Y) * m2) s2.toNat=t2:=⟨_,rfl⟩
  rw [ht1] at b1 b2 hR
  rw [ht2] at b3 b4 hR
  obtain⟨k1,g1,g2⟩:=rightB_yes hr1
  obtain⟨k2,g3,g4⟩:=rightB_yes hr2
  obtain⟨v1,v2⟩:=term_abs hx1 hx2 hZ1 hZ2 k1 hm1
  obtain⟨v3,v4⟩:=term_abs hy1 hy2 hY1 hY2 k2 hm2
  obtain⟨p1,hp1⟩:∃ p1,(x - Z) * m1=p1:=⟨_,rfl⟩
  obtain⟨p2,hp2⟩:∃ p2,(y - Y) * m2=p2:=⟨_,rfl⟩
  have a1:IntKind.i64.wrap ((x - Z) * m1)=p1:=by rw [hp1] at v1 v2 ⊢;exact IntWalk.i64_in _ (by omega)
  have a2:IntKind.i64.wrap ((y - Y) * m2)=p2:=by rw [hp2] at v3 v4 ⊢;exact IntWalk.i64_in _ (by omega)
  rw [hp1] at v1 v2 ht1
  rw [hp2] at v3 v4 ht2
  have p3 : -9223372036854775808≤p1:=by omega
  have p4:p1≤9223372036854775807:=by omega
  have p5 : -9223372036854775808≤p2:=by omega
  have p6:p2≤9223372036854775807:=by omega
  have w1:IntKind.i64.wrap (t1+t2)=t1+t2:=IntWalk.i64_in _ (by omega)
  have w2:IntKind.i64.wrap (t1+t2+z1)=t1+t2+z1:=IntWalk.i64_in _ (by omega)
  have w3:IntKind.i64.wrap (x - Z)=x - Z:=IntWalk.i64_in _ (by omega)
  have w4:IntKind.i64.wrap (y - Y)=y - Y:=IntWalk.i64_in _ (by omega)
  obtain⟨c1,c2⟩ : -128≤R∧R≤127:=by rw [← hR];exact clampZ_bd _ _ _ hl1 hl2 hh1 hh2
  have c3:IntKind.i8.wrap R=R:=IntWalk.i8_in _ (by omega)
  have H1:=hid h1
  have H2:=hid h2
  have HH:=hid hh
  have HR1:=hid hr1
  have HR2:=hid hr2
  have HT1:=hid ht1
  have HT2:=hid ht2
  have HC:=hid hR
  clear hh hr1 hr2 ht1 ht2 hR
  clear hp1 hp2 h1 h2 v1 v2 v3 v4
  go_enter Tryd.func30,Tryd.ntmps30
  go_wp2_with (first
  | (go_at_call 60
     have hal:Below w.heap.size w (w.alloc (.cells #[x0,x1,x2,.int .i64 K,.int .i64 S,.int .i64 P,.int .i64 O,.int .i8 Z,.int .i8 Y,.slice WA nW cW,.slice BA nB cB,.int .i32 m1,.int .i64 s1,.int .i8 z1,.int .i32 m2,.int .i64 s2,.int .i8 z2,.int .i8 lo,.int .i8 hi] 29)):=(Below.refl _ _).alloc (by first | exact le_refl _ | (simp;done) | (simp;omega)) _
     refine (zax _ _ _ _).mono ?_
     rintro e w1 ⟨rfl,hb⟩
     have hh:Below w.heap.size w w1:=hal.trans (hb.mono hal.size)
     have qTN:=(zao.new x0 x1 x2 (.int .i8 Y) (.int .i32 m1) (.int .i64 s1) (.int .i8 z1) (.int .i32 m2) (.int .i64 s2) (.int .i8 z2) (.int .i8 lo) (.int .i8 hi) K S P O Z WA BA nW cW nB cB 29) w
     try simp only [World.size_alloc] at qTN
     have TN:=hid (qTN.below (by first | (simp;done) | (simp;omega)) hb)
     have yTN:w.heap.size < w1.heap.size:=by have:=hb.size;simp at this;omega
     clear qTN
     have HBW:Hid (Below w.heap.size w w1):=hid hh
     rw [H1.out]
     have n7:=TN.out.at 7 _ rfl
     have n8:=TN.out.at 8 _ rfl
     have n11:=TN.out.at 11 _ rfl
     have n12:=TN.out.at 12 _ rfl
     have n13:=TN.out.at 13 _ rfl
     have n14:=TN.out.at 14 _ rfl
     have n15:=TN.out.at 15 _ rfl
     have n16:=TN.out.at 16 _ rfl
     have n17:=TN.out.at 17 _ rfl
     have n18:=TN.out.at 18 _ rfl
     clear hb hh hal)
  | (go_at_call 60
     have hal:Below w1.heap.size w1 w1:=Below.refl _ _
     refine (zax _ _ _ _).mono ?_
     rintro e w2 ⟨rfl,hb⟩
     have hh:Below w1.heap.size w1 w2:=hal.trans (hb.mono hal.size)
     replace TN:=hid (TN.out.below yTN hh)
     replace yTN:=Nat.lt_of_lt_of_le yTN hh.size
     replace HBW:=hid (HBW.out.trans (hh.mono HBW.out.size))
     clear n7 n8 n11 n12 n13 n14 n15 n16 n17 n18
     rw [H2.out]
     have n7:=TN.out.at 7 _ rfl
     have n8:=TN.out.at 8 _ rfl
     have n11:=TN.out.at 11 _ rfl
     have n12:=TN.out.at 12 _ rfl
     have n13:=TN.out.at 13 _ rfl
     have n14:=TN.out.at 14 _ rfl
     have n15:=TN.out.at 15 _ rfl
     have n16:=TN.out.at 16 _ rfl
     have n17:=TN.out.at 17 _ rfl
     have n18:=TN.out.at 18 _ rfl
     clear hb hh hal)
  | (go_at_call 63
     with_reducible refine (refRound_int p1 s1 t1 g1 g2 p3 p4 HT1.out _).mono ?_
     rintro e w3 ⟨rfl,q,hq⟩
     have hh:Below w2.heap.size w2 w3:=by rw [hq];exact Kit.below_drewN (Below.refl _ _) q
     replace TN:=hid (TN.out.below yTN hh)
     replace yTN:=Nat.lt_of_lt_of_le yTN hh.size
     replace HBW:=hid (HBW.out.trans (hh.mono HBW.out.size))
     clear n7 n8 n11 n12 n13 n14 n15 n16 n17 n18
     have n7:=TN.out.at 7 _ rfl
     have n8:=TN.out.at 8 _ rfl
     have n11:=TN.out.at 11 _ rfl
     have n12:=TN.out.at 12 _ rfl
     have n13:=TN.out.at 13 _ rfl
     have n14:=TN.out.at 14 _ rfl
     have n15:=TN.out.at 15 _ rfl
     have n16:=TN.out.at 16 _ rfl
     have n17:=TN.out.at 17 _ rfl
     have n18:=TN.out.at 18 _ rfl
     clear hh hq)
  | (go_at_call 63
     with_reducible refine (refRound_int p2 s2 t2 g3 g4 p5 p6 HT2.out _).mono ?_
     rintro e w4 ⟨rfl,q,hq⟩
     have hh:Below w3.heap.size w3 w4:=by rw [hq];exact Kit.below_drewN (Below.refl _ _) q
     replace TN:=hid (TN.out.below yTN hh)
     replace yTN:=Nat.lt_of_lt_of_le yTN hh.size
     replace HBW:=hid (HBW.out.trans (hh.mono HBW.out.size))
     clear n7 n8 n11 n12 n13 n14 n15 n16 n17 n18
     have n7:=TN.out.at 7 _ rfl
     have n8:=TN.out.at 8 _ rfl
     have n11:=TN.out.at 11 _ rfl
     have n12:=TN.out.at 12 _ rfl
     have n13:=TN.out.at 13 _ rfl
     have n14:=TN.out.at 14 _ rfl
     have n15:=TN.out.at 15 _ rfl
     have n16:=TN.out.at 16 _ rfl
     have n17:=TN.out.at 17 _ rfl
     have n18:=TN.out.at 18 _ rfl
     clear hh hq)
  | (go_at_call 64;(refine (refHeld_to _ lo hi R HC.out _).mono ?_);rintro e w5 ⟨rfl,rfl⟩))
  go_ret
  exact⟨rfl,HBW.out⟩
end CJoin
end
end Go.Proofs.YtceehogkckdbkaaDoor
