/- Texts of this seat, one behind the other: PoolNearC, JoinOne, PadRows. -/
import Derived.BigQuiet
import Derived.Deep.RegionHeld3
import Derived.Test.YtkpngknbiecdiaaGreatDoorGB10
import Derived.Test.YtkpngknbiecdiaaGreatDoorGB28
import Derived.Test.YtkpngknbiecdiaaGreatDoorGB31
section
namespace Go.Proofs.YtkpngknbiecdiaaGreatDoor.CPool
open Go Go.ChangeShapes Go.WideShapes Go.ChangeAt Go.RowKit
open Plain CSat CShape CTensor CConv
set_option linter.unusedVariables false
set_option maxHeartbeats 4000000 in
theorem near_to (s m:Int) (s1 : -4611686018427387904≤s) (s2:s≤4611686018427387904) (m2:m≤9223372036854775807) (R:Int) (hR:nearZ s m=R) (w:World) :
  Calls Tryz.prog 56 #[.int .i64 s,.int .i64 m] w fun e w'=>e=.returned (.int .i64 R)∧∃ q,w'=w.drewN q:=by
 by_cases hm:m < 1
 ·have h0:R=0:=by rw [← hR];unfold nearZ;rw [if_pos hm]
  subst h0
  clear hR
  go_enter Tryz.func56,Tryz.ntmps56
  go_wp2_with fail
  go_ret
  exact⟨rfl,0,rfl⟩
 ·have hm1:1≤m:=by omega
  have hm9:¬ m=0:=by omega
  by_cases hs:s < 0
  ·obtain⟨z,hz⟩:∃ z,z = -s:=⟨_,rfl⟩
   have hz0:0≤z∧z≤4611686018427387904:=by omega
   have hzr:(2 * z+m) / (2 * m)=if m - z % m≤z % m then z / m+1 else z / m:=near_way hm1 hz0.1
   have hRz:R = -((2 * z+m) / (2 * m)):=by
    rw [← hR,hz];unfold nearZ;rw [if_neg hm,if_pos hs]
   rw [hzr] at hRz
   have r1:0≤z % m:=Int.emod_nonneg _ (by omega)
   have r2:z % m < m:=Int.emod_lt_of_pos _ (by omega)
   have q1:0≤z / m:=Int.ediv_nonneg hz0.1 (by omega)
   have q2:z / m≤z:=Int.ediv_le_self _ hz0.1
   have e:s = -z:=by omega
   have d1:s.tdiv m = -(z / m):=by rw [e,Int.neg_tdiv,Int.tdiv_eq_ediv_of_nonneg hz0.1]
   have d2:s.tmod m = -(z % m):=by rw [e,Int.neg_tmod,Int.tmod_eq_emod_of_nonneg hz0.1]
   generalize z / m=q at hRz q1 q2 d1
   generalize z % m=r at hRz r1 r2 d2
   obtain⟨q',hq'⟩:∃ q', -q=q':=⟨_,rfl⟩
   obtain⟨r',hr'⟩:∃ r', -r=r':=⟨_,rfl⟩
   rw [hq'] at d1
   rw [hr'] at d2
   have w1:IntKind.i64.wrap q'=q':=IntWalk.i64_in _ (by omega)
   have w2:IntKind.i64.wrap r'=r':=IntWalk.i64_in _ (by omega)
   have w3:IntKind.i64.wrap (m+r')=m+r':=IntWalk.i64_in _ (by omega)
   have w4:IntKind.i64.wrap (q' - 1)=q' - 1:=IntWalk.i64_in _ (by omega)
   have w5:IntKind.i64.wrap (-r') = -r':=IntWalk.i64_in _ (by omega)
   have w6:¬ r' > 0:=by omega
   clear hR hzr hz0
   by_cases hr:m - r≤r
   ·have hRq:R=q' - 1:=by rw [hRz,if_pos hr];omega
    have t1:r' < 0:=by omega
    have t2 : -r' ≥ m+r':=by omega
    subst hRq
    clear hRz hq' hr' hz e hr r1 r2 q1 q2
    go_enter Tryz.func56,Tryz.ntmps56
    go_wp2_with fail
    go_quiet (fail)
    go_wp2_with fail
    go_ret
    exact⟨rfl,_,rfl⟩
   ·have hRq:R=q':=by rw [hRz,if_neg hr];omega
    subst hRq
    by_cases t1:r' < 0
    ·have t2:¬ -r' ≥ m+r':=by omega
     clear hRz hr' hz e hr r1 r2 q1 q2
     go_enter Tryz.func56,Tryz.ntmps56
     go_wp2_with fail
     go_quiet (fail)
     go_wp2_with fail
     go_ret
     exact⟨rfl,_,rfl⟩
    ·clear hRz hr' hz e hr r1 r2 q1 q2
     go_enter Tryz.func56,Tryz.ntmps56
     go_wp2_with fail
     go_quiet (fail)
     go_wp2_with fail
     go_ret
     exact⟨rfl,_,rfl⟩
  ·have hz0:0≤s:=by omega
   have hzr:(2 * s+m) / (2 * m)=if m - s % m≤s % m then s / m+1 else s / m:=near_way hm1 hz0
   have hRz:R=(2 * s+m) / (2 * m):=by
    rw [← hR];unfold nearZ;rw [if_neg hm,if_neg hs]
   rw [hzr] at hRz
   have r1:0≤s % m:=Int.emod_nonneg _ (by omega)
   have r2:s % m < m:=Int.emod_lt_of_pos _ (by omega)
   have q1:0≤s / m:=Int.ediv_nonneg hz0 (by omega)
   have q2:s / m≤s:=Int.ediv_le_self _ hz0
   have d1:s.tdiv m=s / m:=Int.tdiv_eq_ediv_of_nonneg hz0
   have d2:s.tmod m=s % m:=Int.tmod_eq_emod_of_nonneg hz0
   generalize s / m=q at hRz q1 q2 d1
   generalize s % m=r at hRz r1 r2 d2
   have w1:IntKind.i64.wrap q=q:=IntWalk.i64_in _ (by omega)
   have w2:IntKind.i64.wrap r=r:=IntWalk.i64_in _ (by omega)
   have w3:IntKind.i64.wrap (m - r)=m - r:=IntWalk.i64_in _ (by omega)
   have w4:IntKind.i64.wrap (q+1)=q+1:=IntWalk.i64_in _ (by omega)
   have w6:¬ r < 0:=by omega
   clear hR hzr
   by_cases hr:m - r≤r
   ·have hRq:R=q+1:=by rw [hRz,if_pos hr]
    have t1:r > 0:=by omega
    have t2:r ≥ m - r:=by omega
    subst hRq
    clear hRz hr r1 r2 q1 q2 hz0
    go_enter Tryz.func56,Tryz.ntmps56
    go_wp2_with fail
    go_quiet (fail)
    go_wp2_with fail
    go_ret
    exact⟨rfl,_,rfl⟩
   ·have hRq:R=q:=by rw [hRz,if_neg hr]
    subst hRq
    by_cases t1:r > 0
    ·have t2:¬ r ≥ m - r:=by omega
     clear hRz hr r1 r2 q1 q2 hz0
     go_enter Tryz.func56,Tryz.ntmps56
     go_wp2_with fail
     go_quiet (fail)
     go_wp2_with fail
     go_ret
     exact⟨rfl,_,rfl⟩
    ·clear hRz hr r1 r2 q1 q2 hz0
     go_enter Tryz.func56,Tryz.ntmps56
     go_wp2_with fail
     go_quiet (fail)
     go_wp2_with fail
     go_ret
     exact⟨rfl,_,rfl⟩
end Go.Proofs.YtkpngknbiecdiaaGreatDoor.CPool
end
section
namespace Go.Proofs.YtkpngknbiecdiaaGreatDoor.CJoin
open Go Go.ChangeShapes Go.WideShapes Go.ChangeAt Go.RowKit Go.Deep
open Plain CSat CFix CShape CTensor CConv
set_option linter.unusedVariables false
def NBd (Z Y m1 z1 m2 z2 lo hi:Int):Prop:=(-128≤Z∧Z≤127)∧(-128≤Y∧Y≤127)∧(-2147483648≤m1∧m1≤2147483647)∧(-128≤z1∧z1≤127)∧(-2147483648≤m2∧m2≤2147483647)∧(-128≤z2∧z2≤127)∧(-128≤lo∧lo≤127)∧(-128≤hi∧hi≤127)
def oneZ (x y Z Y m1 s1 z1 m2 s2 lo hi:Int):Int :=
 if (rightB m1 s1 && rightB m2 s2)=true then clampZ (roundZ ((x - Z) * m1) s1.toNat+roundZ ((y - Y) * m2) s2.toNat+z1) lo hi else 0
theorem clampZ_bd (v lo hi:Int) (hl1 : -128≤lo) (hl2:lo≤127) (hh1 : -128≤hi) (hh2:hi≤127) : -128≤clampZ v lo hi∧clampZ v lo hi≤127:=by
 unfold clampZ;split <;> (try split) <;> omega
theorem rightB_yes {m s:Int} (h:rightB m s=true):0 < m∧0≤s∧s≤62:=by simpa [rightB] using h
theorem jclamp_to (v lo hi r:Int) (h:clampZ v lo hi=r) (hl1 : -128≤lo) (hl2:lo≤127) (hh1 : -128≤hi) (hh2:hi≤127) (w:World) :
  Calls Tryz.prog 105 #[.int .i64 v,.int .i8 lo,.int .i8 hi] w fun e w'=>e=.returned (.int .i8 r)∧w=w':=by
 subst h
 by_cases h1:v < lo
 ·go_enter Tryz.func105,Tryz.ntmps105
  go_wp2
  go_ret
  exact⟨ret_int (by exact clampZ_lo (by omega)),rfl⟩
 ·by_cases h2:v > hi
  ·go_enter Tryz.func105,Tryz.ntmps105
   go_wp2
   go_ret
   exact⟨ret_int (by exact clampZ_hi (by omega) (by omega)),rfl⟩
  ·go_enter Tryz.func105,Tryz.ntmps105
   go_wp2
   go_ret
   exact⟨ret_int (by exact clampZ_in (by omega) (by omega)),rfl⟩
theorem term_abs {x Z m:Int} (hx1 : -128≤x) (hx2:x≤127) (hz1 : -128≤Z) (hz2:Z≤127) (hm1:0 < m) (hm2:m≤2147483647) : -547608329985≤(x - Z) * m∧(x - Z) * m≤547608329985:=by
 have h1:(x - Z) * m≤255 * 2147483647:=by
  by_cases h:0≤x - Z
  ·exact Int.mul_le_mul (by omega) (by omega) (by omega) (by omega)
  ·exact Int.le_trans (Int.mul_nonpos_of_nonpos_of_nonneg (by omega) (by omega)) (by omega)
 have h2:(Z - x) * m≤255 * 2147483647:=by
  by_cases h:0≤Z - x
  ·exact Int.mul_le_mul (by omega) (by omega) (by omega) (by omega)
  ·exact Int.le_trans (Int.mul_nonpos_of_nonpos_of_nonneg (by omega) (by omega)) (by omega)
 have h3:(Z - x) * m = -((x - Z) * m):=by rw [← Int.neg_mul];congr 1;omega
 omega
theorem round_term {x Z m s:Int} (hx1 : -128≤x) (hx2:x≤127) (hz1 : -128≤Z) (hz2:Z≤127) (hm2:m≤2147483647) (h:rightB m s=true) : -547608329985≤roundZ ((x - Z) * m) s.toNat∧roundZ ((x - Z) * m) s.toNat≤547608329985:=by
 obtain⟨h1,h2,h3⟩:=rightB_yes h
 obtain⟨b1,b2⟩:=term_abs hx1 hx2 hz1 hz2 h1 hm2
 have:=round_abs ((x - Z) * m) s.toNat (by omega) (by omega) (by omega)
 omega
theorem scaled_to (x Z m s z t:Int) (hx1 : -128≤x) (hx2:x≤127) (hz1 : -128≤Z) (hz2:Z≤127) (hm2:m≤2147483647) (h:rightB m s=true) (ht:roundZ ((x - Z) * m) s.toNat=t) (w:World) :
  Calls Tryz.prog 106 #[.int .i8 x,.int .i8 Z,.agg #[.int .i32 m,.int .i64 s,.int .i8 z]] w fun e w'=>e=.returned (.int .i64 t)∧Below w.heap.size w w':=by
 obtain⟨h1,h2,h3⟩:=rightB_yes h
 obtain⟨y,hy⟩:∃ y,x - Z=y:=⟨_,rfl⟩
 have hw:IntKind.i32.wrap (x - Z)=y:=by rw [IntWalk.i32_in _ (by omega),hy]
 have e1:IntKind.i32.wrap x=x:=IntWalk.i32_in _ (by omega)
 have e2:IntKind.i32.wrap Z=Z:=IntWalk.i32_in _ (by omega)
 have y1 : -2147483648≤y:=by omega
 have y2:y≤2147483647:=by omega
 have m1 : -2147483648≤m:=by omega
 rw [hy] at ht
 have HT:=Lib.hid ht
 clear hy ht h
 go_enter Tryz.func106,Tryz.ntmps106
 go_wp2_with (go_at_call 139;refine (scale_int y m s t h2 h3 y1 y2 m1 hm2 HT.out _).mono ?_;rintro e w' ⟨rfl,rfl⟩)
 go_ret
 exact⟨rfl,(Below.refl _ _).alloc (Nat.le_refl _) _⟩
theorem isRight_to (m s z:Int) (w:World):Calls Tryz.prog 50 #[.agg #[.int .i32 m,.int .i64 s,.int .i8 z]] w fun e w'=>e=.returned (.bool (rightB m s))∧Below w.heap.size w w':=by
 cases h:rightB m s
 ·exact isRight_no m s z h w
 ·exact isRight_yes m s z h w
set_option maxHeartbeats 2000000 in
theorem scales_to (x0 x1 x2:Value) (K S P O Z Y:Int) (WA BA:Option Addr) (nW cW nB cB:Nat) (m1 s1 z1 m2 s2 z2 lo hi:Int) (w:World) :
  Calls Tryz.prog 57 #[.agg #[x0,x1,x2,.int .i64 K,.int .i64 S,.int .i64 P,.int .i64 O,.int .i8 Z,.int .i8 Y,.slice WA nW cW,.slice BA nB cB,.int .i32 m1,.int .i64 s1,.int .i8 z1,.int .i32 m2,.int .i64 s2,.int .i8 z2,.int .i8 lo,.int .i8 hi]] w fun e w'=>e=.returned (.bool (rightB m1 s1 && rightB m2 s2))∧Below w.heap.size w w':=by
 cases h1:rightB m1 s1 <;> cases h2:rightB m2 s2
 ·have H1:=Lib.hid h1
  have H2:=Lib.hid h2
  clear h1 h2
  go_enter Tryz.func57,Tryz.ntmps57
  go_wp2_with (first
   | (go_at_call 50
      have hal:Below w.heap.size w (w.alloc (.cells #[x0,x1,x2,.int .i64 K,.int .i64 S,.int .i64 P,.int .i64 O,.int .i8 Z,.int .i8 Y,.slice WA nW cW,.slice BA nB cB,.int .i32 m1,.int .i64 s1,.int .i8 z1,.int .i32 m2,.int .i64 s2,.int .i8 z2,.int .i8 lo,.int .i8 hi] 28)):=(Below.refl _ _).alloc (by first | exact Nat.le_refl _ | (simp;done) | (simp;omega)) _
      refine (isRight_to _ _ _ _).mono ?_
      rintro e w1 ⟨rfl,hb⟩
      have hh:Below w.heap.size w w1:=hal.trans (hb.mono hal.size)
      have qTN:=(NodeAt.new x0 x1 x2 (.int .i8 Y) (.int .i32 m1) (.int .i64 s1) (.int .i8 z1) (.int .i32 m2) (.int .i64 s2) (.int .i8 z2) (.int .i8 lo) (.int .i8 hi) K S P O Z WA BA nW cW nB cB 28) w
      try simp only [World.size_alloc] at qTN
      have TN:=Lib.hid (qTN.below (by first | (simp;done) | (simp;omega)) hb)
      have yTN:w.heap.size < w1.heap.size:=by have:=hb.size;simp at this;omega
      clear qTN
      have HBW:Hid (Below w.heap.size w w1):=Lib.hid hh
      rw [H1.out]
      have n14:=TN.out.at 14 _ rfl
      have n15:=TN.out.at 15 _ rfl
      have n16:=TN.out.at 16 _ rfl
      clear hb hh hal))
  go_ret
  exact⟨rfl,HBW.out⟩
 ·have H1:=Lib.hid h1
  have H2:=Lib.hid h2
  clear h1 h2
  go_enter Tryz.func57,Tryz.ntmps57
  go_wp2_with (first
   | (go_at_call 50
      have hal:Below w.heap.size w (w.alloc (.cells #[x0,x1,x2,.int .i64 K,.int .i64 S,.int .i64 P,.int .i64 O,.int .i8 Z,.int .i8 Y,.slice WA nW cW,.slice BA nB cB,.int .i32 m1,.int .i64 s1,.int .i8 z1,.int .i32 m2,.int .i64 s2,.int .i8 z2,.int .i8 lo,.int .i8 hi] 28)):=(Below.refl _ _).alloc (by first | exact Nat.le_refl _ | (simp;done) | (simp;omega)) _
      refine (isRight_to _ _ _ _).mono ?_
      rintro e w1 ⟨rfl,hb⟩
      have hh:Below w.heap.size w w1:=hal.trans (hb.mono hal.size)
      have qTN:=(NodeAt.new x0 x1 x2 (.int .i8 Y) (.int .i32 m1) (.int .i64 s1) (.int .i8 z1) (.int .i32 m2) (.int .i64 s2) (.int .i8 z2) (.int .i8 lo) (.int .i8 hi) K S P O Z WA BA nW cW nB cB 28) w
      try simp only [World.size_alloc] at qTN
      have TN:=Lib.hid (qTN.below (by first | (simp;done) | (simp;omega)) hb)
      have yTN:w.heap.size < w1.heap.size:=by have:=hb.size;simp at this;omega
      clear qTN
      have HBW:Hid (Below w.heap.size w w1):=Lib.hid hh
      rw [H1.out]
      have n14:=TN.out.at 14 _ rfl
      have n15:=TN.out.at 15 _ rfl
      have n16:=TN.out.at 16 _ rfl
      clear hb hh hal))
  go_ret
  exact⟨rfl,HBW.out⟩
 ·have H1:=Lib.hid h1
  have H2:=Lib.hid h2
  clear h1 h2
  go_enter Tryz.func57,Tryz.ntmps57
  go_wp2_with (first
   | (go_at_call 50
      have hal:Below w.heap.size w (w.alloc (.cells #[x0,x1,x2,.int .i64 K,.int .i64 S,.int .i64 P,.int .i64 O,.int .i8 Z,.int .i8 Y,.slice WA nW cW,.slice BA nB cB,.int .i32 m1,.int .i64 s1,.int .i8 z1,.int .i32 m2,.int .i64 s2,.int .i8 z2,.int .i8 lo,.int .i8 hi] 28)):=(Below.refl _ _).alloc (by first | exact Nat.le_refl _ | (simp;done) | (simp;omega)) _
      refine (isRight_to _ _ _ _).mono ?_
      rintro e w1 ⟨rfl,hb⟩
      have hh:Below w.heap.size w w1:=hal.trans (hb.mono hal.size)
      have qTN:=(NodeAt.new x0 x1 x2 (.int .i8 Y) (.int .i32 m1) (.int .i64 s1) (.int .i8 z1) (.int .i32 m2) (.int .i64 s2) (.int .i8 z2) (.int .i8 lo) (.int .i8 hi) K S P O Z WA BA nW cW nB cB 28) w
      try simp only [World.size_alloc] at qTN
      have TN:=Lib.hid (qTN.below (by first | (simp;done) | (simp;omega)) hb)
      have yTN:w.heap.size < w1.heap.size:=by have:=hb.size;simp at this;omega
      clear qTN
      have HBW:Hid (Below w.heap.size w w1):=Lib.hid hh
      rw [H1.out]
      have n14:=TN.out.at 14 _ rfl
      have n15:=TN.out.at 15 _ rfl
      have n16:=TN.out.at 16 _ rfl
      clear hb hh hal)
   | (go_at_call 50
      have hal:Below w1.heap.size w1 w1:=Below.refl _ _
      refine (isRight_to _ _ _ _).mono ?_
      rintro e w2 ⟨rfl,hb⟩
      have hh:Below w1.heap.size w1 w2:=hal.trans (hb.mono hal.size)
      replace TN:=Lib.hid (TN.out.below yTN hh)
      replace yTN:=Nat.lt_of_lt_of_le yTN hh.size
      replace HBW:=Lib.hid (HBW.out.trans (hh.mono HBW.out.size))
      clear n14 n15 n16
      rw [H2.out]
      have n14:=TN.out.at 14 _ rfl
      have n15:=TN.out.at 15 _ rfl
      have n16:=TN.out.at 16 _ rfl
      clear hb hh hal))
  go_ret
  exact⟨rfl,HBW.out⟩
 ·have H1:=Lib.hid h1
  have H2:=Lib.hid h2
  clear h1 h2
  go_enter Tryz.func57,Tryz.ntmps57
  go_wp2_with (first
   | (go_at_call 50
      have hal:Below w.heap.size w (w.alloc (.cells #[x0,x1,x2,.int .i64 K,.int .i64 S,.int .i64 P,.int .i64 O,.int .i8 Z,.int .i8 Y,.slice WA nW cW,.slice BA nB cB,.int .i32 m1,.int .i64 s1,.int .i8 z1,.int .i32 m2,.int .i64 s2,.int .i8 z2,.int .i8 lo,.int .i8 hi] 28)):=(Below.refl _ _).alloc (by first | exact Nat.le_refl _ | (simp;done) | (simp;omega)) _
      refine (isRight_to _ _ _ _).mono ?_
      rintro e w1 ⟨rfl,hb⟩
      have hh:Below w.heap.size w w1:=hal.trans (hb.mono hal.size)
      have qTN:=(NodeAt.new x0 x1 x2 (.int .i8 Y) (.int .i32 m1) (.int .i64 s1) (.int .i8 z1) (.int .i32 m2) (.int .i64 s2) (.int .i8 z2) (.int .i8 lo) (.int .i8 hi) K S P O Z WA BA nW cW nB cB 28) w
      try simp only [World.size_alloc] at qTN
      have TN:=Lib.hid (qTN.below (by first | (simp;done) | (simp;omega)) hb)
      have yTN:w.heap.size < w1.heap.size:=by have:=hb.size;simp at this;omega
      clear qTN
      have HBW:Hid (Below w.heap.size w w1):=Lib.hid hh
      rw [H1.out]
      have n14:=TN.out.at 14 _ rfl
      have n15:=TN.out.at 15 _ rfl
      have n16:=TN.out.at 16 _ rfl
      clear hb hh hal)
   | (go_at_call 50
      have hal:Below w1.heap.size w1 w1:=Below.refl _ _
      refine (isRight_to _ _ _ _).mono ?_
      rintro e w2 ⟨rfl,hb⟩
      have hh:Below w1.heap.size w1 w2:=hal.trans (hb.mono hal.size)
      replace TN:=Lib.hid (TN.out.below yTN hh)
      replace yTN:=Nat.lt_of_lt_of_le yTN hh.size
      replace HBW:=Lib.hid (HBW.out.trans (hh.mono HBW.out.size))
      clear n14 n15 n16
      rw [H2.out]
      have n14:=TN.out.at 14 _ rfl
      have n15:=TN.out.at 15 _ rfl
      have n16:=TN.out.at 16 _ rfl
      clear hb hh hal))
  go_ret
  exact⟨rfl,HBW.out⟩
end Go.Proofs.YtkpngknbiecdiaaGreatDoor.CJoin
end
section
namespace Go.Proofs.YtkpngknbiecdiaaGreatDoor.CPad
open Go Go.ChangeShapes Go.WideShapes Go.ChangeAt Go.RowKit
open Plain CSat CShape CTensor
set_option linter.unusedVariables false
theorem own_heap {w:World} {base:Nat} {e:TypeId} {g n cap:Nat} {xs:List Value} (h:w.ownsRow base e 1 (.slice (some ⟨g,0,none⟩) n cap) n xs) :
  ∃ rest:List Value,w.heap[g]?=some (.cells (xs ++ rest).toArray e (0,0))∧base≤g∧n≤cap∧cap≤maxLen∧(xs ++ rest).length=cap∧xs.length=n:=by
 rcases h.2 with ⟨h',_⟩ | ⟨g',cap',cur,h',hb,hg,hnc,hcm,hcs,htake⟩
 ·simp at h'
 ·simp only [Value.slice.injEq,Option.some.injEq,Addr.mk.injEq,and_true,true_and] at h'
  obtain⟨rfl,rfl⟩:=h'
  have hx:xs.length=n:=by simpa using h.1
  refine⟨cur.toList.drop n,?_,hb,hnc,hcm,?_,hx⟩
  ·rw [Nat.mul_one] at htake
   rw [← htake,List.take_append_drop];exact hg
  ·rw [Nat.mul_one] at htake hcs
   rw [← htake,List.take_append_drop,Array.length_toList,hcs]
theorem own_of_heap {w:World} {base:Nat} {e:TypeId} {g n cap:Nat} {xs rest:List Value} (hg:w.heap[g]?=some (.cells (xs ++ rest).toArray e (0,0))) (hb:base≤g) (hnc:n≤cap) (hcm:cap≤maxLen) (hl:(xs ++ rest).length=cap) (hx:xs.length=n) :
  w.ownsRow base e 1 (.slice (some ⟨g,0,none⟩) n cap) n xs:=by
 refine⟨by simpa using hx,.inr ⟨g,cap,_,rfl,hb,hg,hnc,hcm,?_,?_⟩⟩
 ·rw [Nat.mul_one,List.size_toArray];exact hl
 ·rw [Nat.mul_one];show (xs ++ rest).take n=xs
  rw [← hx];simp
theorem splice_front {xs rest cs:List Value} {o:Nat} (h:o+cs.length≤xs.length):splice (xs ++ rest) o cs=splice xs o cs ++ rest:=by
 unfold splice
 rw [List.take_append_of_le_length (by omega),List.drop_append_of_le_length h]
 simp
def dataL (F:Nat→Int) (m q:Nat):List Value:=I8s (rowL F q) ++ List.replicate (m - q) (.int .i8 0)
theorem dataL_len (F:Nat→Int) {m q:Nat} (h:q≤m):(dataL F m q).length=m:=by simp [dataL,I8s,rowL];omega
theorem dataL_zero (F:Nat→Int) (m:Nat):dataL F m 0=I8s (List.replicate m 0):=by simp [dataL,I8s,rowL]
theorem dataL_all (F:Nat→Int) (m:Nat):dataL F m m=I8s (rowL F m):=by simp [dataL]
theorem rowL_add (F:Nat→Int) (q l:Nat) (ys:List Int) (hl:ys.length=l) (hy:∀ j,j < l→ys[j]?=some (F (q+j))):rowL F (q+l)=rowL F q ++ ys:=by
 apply List.ext_getElem?
 intro j
 by_cases hj:j < q
 ·rw [List.getElem?_append_left (by simpa [rowL] using hj)]
  simp [rowL,hj,show j < q+l by omega]
 ·rw [List.getElem?_append_right (by simpa [rowL] using Nat.le_of_not_lt hj)]
  rw [show (rowL F q).length=q by simp [rowL]]
  by_cases h2:j - q < l
  ·rw [hy _ h2]
   simp [rowL,show j < q+l by omega,show q+(j - q)=j by omega]
  ·have e1:(rowL F (q+l))[j]?=none:=by simp [rowL];omega
   rw [e1,List.getElem?_eq_none (by omega)]
theorem dataL_splice (F:Nat→Int) {m q l:Nat} (ys:List Int) (hl:ys.length=l) (hy:∀ j,j < l→ys[j]?=some (F (q+j))) (h:q+l≤m):splice (dataL F m q) q (I8s ys)=dataL F m (q+l):=by
 unfold splice dataL
 rw [rowL_add F q l ys hl hy]
 rw [List.take_left' (by simp [I8s,rowL]),List.drop_append,List.drop_eq_nil_of_le (by simp [I8s,rowL])]
 simp only [I8s,List.length_map,List.map_append,List.append_assoc,List.nil_append]
 rw [show (rowL F q).length=q by simp [rowL],hl,List.drop_replicate]
 congr 3
 omega
theorem line_set {F:Nat→Int} {q l i:Nat} {ys:List Int} {x:Int} (hl:ys.length=l) (hy:∀ j,j < i→ys[j]?=some (F (q+j))) (hi:i < l) (hx:F (q+i)=x) :
  (ys.set i x).length=l∧∀ j,j < i+1→(ys.set i x)[j]?=some (F (q+j)):=by
 refine⟨by simpa using hl,fun j hj=>?_⟩
 rw [List.getElem?_set]
 by_cases e:i=j
 ·subst e
  rw [if_pos rfl,if_pos (by omega),hx]
 ·rw [if_neg e]
  exact hy j (by omega)
theorem I8s_set (ys:List Int) (i:Nat) (x:Int):(I8s ys).set i (.int .i8 x)=I8s (ys.set i x):=by simp [I8s,List.map_set]
theorem own_nonempty {w:World} {base:Nat} {e:TypeId} {n:Nat} {v:Value} {xs:List Value} (h:w.ownsRow base e 1 v n xs) (hn:0 < n):∃ g cap,v=.slice (some ⟨g,0,none⟩) n cap∧n≤cap∧cap≤maxLen∧base≤g∧g < w.heap.size:=by
 rcases h.2 with ⟨_,h0⟩ | ⟨g,cap,cur,h',hb,hg,hnc,hcm,_,_⟩
 ·omega
 ·refine⟨g,cap,h',hnc,hcm,hb,?_⟩
  rcases Nat.lt_or_ge g w.heap.size with hlt | hge
  ·exact hlt
  ·rw [Array.getElem?_eq_none hge] at hg;cases hg
end Go.Proofs.YtkpngknbiecdiaaGreatDoor.CPad
end
