/- -/
import Derived.Test.YtoffcaldhojjoaaDoorGVP7
open Go.Lib (hid)
open Nat (le_refl lt_of_succ_lt lt_succ_self)
set_option linter.unusedVariables false
set_option linter.unusedSimpArgs false
set_option maxRecDepth 100000
set_option maxHeartbeats 16000000
namespace Go.Proofs.YtoffcaldhojjoaaDoor
namespace CConv
end CConv
namespace CFix
end CFix
namespace CSat
end CSat
namespace CShape
end CShape
namespace CTensor
end CTensor
open Go Go.ChangeShapes Go.WideShapes Go.ChangeAt Go.RowKit Go.Deep
section
namespace CJoin
open Plain CSat CFix CShape CTensor CConv
def NBd (Z Y m1 z1 m2 z2 lo hi:Int):Prop:=(-128≤Z∧Z≤127)∧(-128≤Y∧Y≤127)∧(-2147483648≤m1∧m1≤2147483647)∧(-128≤z1∧z1≤127)∧(-2147483648≤m2∧m2≤2147483647)∧(-128≤z2∧z2≤127)∧(-128≤lo∧lo≤127)∧(-128≤hi∧hi≤127)
def oneZ (x y Z Y m1 s1 z1 m2 s2 lo hi:Int):Int :=
 if (zat m1 s1 && zat m2 s2)=true then zbl (za6 ((x - Z) * m1) s1.toNat+za6 ((y - Y) * m2) s2.toNat+z1) lo hi else 0
theorem rightB_yes {m s:Int} (h:zat m s=true):0 < m∧0≤s∧s≤62:=by simpa [zat] using h
theorem jclamp_to (v lo hi r:Int) (h:zbl v lo hi=r) (hl1 : -128≤lo) (hl2:lo≤127) (hh1 : -128≤hi) (hh2:hi≤127) (w:World) :
  Calls Tryd.prog 91 #[.int .i64 v,.int .i8 lo,.int .i8 hi] w fun e w'=>e=.returned (.int .i8 r)∧w=w':=by
 subst h
 by_cases h1:v < lo
 ·go_enter Tryd.func91,Tryd.ntmps91
  go_wp2
  go_ret
  exact⟨zbn (by exact clampZ_lo (by omega)),rfl⟩
 ·by_cases h2:v > hi
  ·go_enter Tryd.func91,Tryd.ntmps91
   go_wp2
   go_ret
   exact⟨zbn (by exact clampZ_hi (by omega) (by omega)),rfl⟩
  ·go_enter Tryd.func91,Tryd.ntmps91
   go_wp2
   go_ret
   exact⟨zbn (by exact clampZ_in (by omega) (by omega)),rfl⟩
theorem term_abs {x Z m:Int} (hx1 : -128≤x) (hx2:x≤127) (hz1 : -128≤Z) (hz2:Z≤127) (hm1:0 < m) (hm2:m≤2147483647) : -547608329985≤(x - Z) * m∧(x - Z) * m≤547608329985:=by
 have h1:(x - Z) * m≤255 * 2147483647:=by
  by_cases h:0≤x - Z
  ·exact Int.mul_le_mul (by omega) (by omega) (by omega) (by omega)
  ·exact Int.le_trans (Int.mul_nonpos_of_nonpos_of_nonneg (by omega) (by omega)) (by omega)
 have h2:(Z - x) * m≤255 * 2147483647:=by
  by_cases h:0≤Z - x
  ·exact Int.mul_le_mul (by omega) (by omega) (by omega) (by omega)
  ·exact Int.le_trans (Int.mul_nonpos_of_nonpos_of_nonneg (by omega) (by omega)) (by omega)
 have h3:(Z - x) * m = -((x - Z) * m):=by rw [← Int.neg_mul];congr 1;omega
 omega
theorem round_term {x Z m s:Int} (hx1 : -128≤x) (hx2:x≤127) (hz1 : -128≤Z) (hz2:Z≤127) (hm2:m≤2147483647) (h:zat m s=true) : -547608329985≤za6 ((x - Z) * m) s.toNat∧za6 ((x - Z) * m) s.toNat≤547608329985:=by
 obtain⟨h1,h2,h3⟩:=rightB_yes h
 obtain⟨b1,b2⟩:=term_abs hx1 hx2 hz1 hz2 h1 hm2
 have:=round_abs ((x - Z) * m) s.toNat (by omega) (by omega) (by omega)
 omega
theorem scaled_to (x Z m s z t:Int) (hx1 : -128≤x) (hx2:x≤127) (hz1 : -128≤Z) (hz2:Z≤127) (hm2:m≤2147483647) (h:zat m s=true) (ht:za6 ((x - Z) * m) s.toNat=t) (w:World) :
  Calls Tryd.prog 92 #[.int .i8 x,.int .i8 Z,.agg #[.int .i32 m,.int .i64 s,.int .i8 z]] w fun e w'=>e=.returned (.int .i64 t)∧Below w.heap.size w w':=by
 obtain⟨h1,h2,h3⟩:=rightB_yes h
 obtain⟨y,hy⟩:∃ y,x - Z=y:=⟨_,rfl⟩
 have hw:IntKind.i32.wrap (x - Z)=y:=by rw [IntWalk.i32_in _ (by omega),hy]
 have e1:IntKind.i32.wrap x=x:=IntWalk.i32_in _ (by omega)
 have e2:IntKind.i32.wrap Z=Z:=IntWalk.i32_in _ (by omega)
 have y1 : -2147483648≤y:=by omega
 have y2:y≤2147483647:=by omega
 have m1 : -2147483648≤m:=by omega
 rw [hy] at ht
 have HT:=hid ht
 clear hy ht h
 go_enter Tryd.func92,Tryd.ntmps92
 go_wp2_with (go_at_call 101;refine (scale_int y m s t h2 h3 y1 y2 m1 hm2 HT.out _).mono ?_;rintro e w' ⟨rfl,rfl⟩)
 go_ret
 exact⟨rfl,(Below.refl _ _).alloc (le_refl _) _⟩
theorem zbi (m s z:Int) (w:World):Calls Tryd.prog 71 #[.agg #[.int .i32 m,.int .i64 s,.int .i8 z]] w fun e w'=>e=.returned (.bool (zat m s))∧Below w.heap.size w w':=by
 cases h:zat m s
 ·exact isRight_no m s z h w
 ·exact isRight_yes m s z h w
theorem scales_to (x0 x1 x2:Value) (K S P O Z Y:Int) (WA BA:Option Addr) (nW cW nB cB:Nat) (m1 s1 z1 m2 s2 z2 lo hi:Int) (w:World) :
  Calls Tryd.prog 90 #[.agg #[x0,x1,x2,.int .i64 K,.int .i64 S,.int .i64 P,.int .i64 O,.int .i8 Z,.int .i8 Y,.slice WA nW cW,.slice BA nB cB,.int .i32 m1,.int .i64 s1,.int .i8 z1,.int .i32 m2,.int .i64 s2,.int .i8 z2,.int .i8 lo,.int .i8 hi]] w fun e w'=>e=.returned (.bool (zat m1 s1 && zat m2 s2))∧Below w.heap.size w w':=by
 cases h1:zat m1 s1 <;> cases h2:zat m2 s2
 ·have H1:=hid h1
  have H2:=hid h2
  clear h1 h2
  go_enter Tryd.func90,Tryd.ntmps90
  go_wp2_with (first
   | (go_at_call 71
      have hal:Below w.heap.size w (w.alloc (.cells #[x0,x1,x2,.int .i64 K,.int .i64 S,.int .i64 P,.int .i64 O,.int .i8 Z,.int .i8 Y,.slice WA nW cW,.slice BA nB cB,.int .i32 m1,.int .i64 s1,.int .i8 z1,.int .i32 m2,.int .i64 s2,.int .i8 z2,.int .i8 lo,.int .i8 hi] 67)):=(Below.refl _ _).alloc (by first | exact le_refl _ | (simp;done) | (simp;omega)) _
      refine (zbi _ _ _ _).mono ?_
      rintro e w1 ⟨rfl,hb⟩
      have hh:Below w.heap.size w w1:=hal.trans (hb.mono hal.size)
      have qTN:=(zao.new x0 x1 x2 (.int .i8 Y) (.int .i32 m1) (.int .i64 s1) (.int .i8 z1) (.int .i32 m2) (.int .i64 s2) (.int .i8 z2) (.int .i8 lo) (.int .i8 hi) K S P O Z WA BA nW cW nB cB 67) w
      try simp only [World.size_alloc] at qTN
      have TN:=hid (qTN.below (by first | (simp;done) | (simp;omega)) hb)
      have yTN:w.heap.size < w1.heap.size:=by have:=hb.size;simp at this;omega
      clear qTN
      have HBW:Hid (Below w.heap.size w w1):=hid hh
      rw [H1.out]
      have n14:=TN.out.at 14 _ rfl
      have n15:=TN.out.at 15 _ rfl
      have n16:=TN.out.at 16 _ rfl
      clear hb hh hal))
  go_ret
  exact⟨rfl,HBW.out⟩
 ·have H1:=hid h1
  have H2:=hid h2
  clear h1 h2
  go_enter Tryd.func90,Tryd.ntmps90
  go_wp2_with (first
   | (go_at_call 71
      have hal:Below w.heap.size w (w.alloc (.cells #[x0,x1,x2,.int .i64 K,.int .i64 S,.int .i64 P,.int .i64 O,.int .i8 Z,.int .i8 Y,.slice WA nW cW,.slice BA nB cB,.int .i32 m1,.int .i64 s1,.int .i8 z1,.int .i32 m2,.int .i64 s2,.int .i8 z2,.int .i8 lo,.int .i8 hi] 67)):=(Below.refl _ _).alloc (by first | exact le_refl _ | (simp;done) | (simp;omega)) _
      refine (zbi _ _ _ _).mono ?_
      rintro e w1 ⟨rfl,hb⟩
      have hh:Below w.heap.size w w1:=hal.trans (hb.mono hal.size)
      have qTN:=(zao.new x0 x1 x2 (.int .i8 Y) (.int .i32 m1) (.int .i64 s1) (.int .i8 z1) (.int .i32 m2) (.int .i64 s2) (.int .i8 z2) (.int .i8 lo) (.int .i8 hi) K S P O Z WA BA nW cW nB cB 67) w
      try simp only [World.size_alloc] at qTN
      have TN:=hid (qTN.below (by first | (simp;done) | (simp;omega)) hb)
      have yTN:w.heap.size < w1.heap.size:=by have:=hb.size;simp at this;omega
      clear qTN
      have HBW:Hid (Below w.heap.size w w1):=hid hh
      rw [H1.out]
      have n14:=TN.out.at 14 _ rfl
      have n15:=TN.out.at 15 _ rfl
      have n16:=TN.out.at 16 _ rfl
      clear hb hh hal))
  go_ret
  exact⟨rfl,HBW.out⟩
 ·have H1:=hid h1
  have H2:=hid h2
  clear h1 h2
  go_enter Tryd.func90,Tryd.ntmps90
  go_wp2_with (first
   | (go_at_call 71
      have hal:Below w.heap.size w (w.alloc (.cells #[x0,x1,x2,.int .i64 K,.int .i64 S,.int .i64 P,.int .i64 O,.int .i8 Z,.int .i8 Y,.slice WA nW cW,.slice BA nB cB,.int .i32 m1,.int .i64 s1,.int .i8 z1,.int .i32 m2,.int .i64 s2,.int .i8 z2,.int .i8 lo,.int .i8 hi] 67)):=(Below.refl _ _).alloc (by first | exact le_refl _ | (simp;done) | (simp;omega)) _
      refine (zbi _ _ _ _).mono ?_
      rintro e w1 ⟨rfl,hb⟩
      have hh:Below w.heap.size w w1:=hal.trans (hb.mono hal.size)
      have qTN:=(zao.new x0 x1 x2 (.int .i8 Y) (.int .i32 m1) (.int .i64 s1) (.int .i8 z1) (.int .i32 m2) (.int .i64 s2) (.int .i8 z2) (.int .i8 lo) (.int .i8 hi) K S P O Z WA BA nW cW nB cB 67) w
      try simp only [World.size_alloc] at qTN
      have TN:=hid (qTN.below (by first | (simp;done) | (simp;omega)) hb)
      have yTN:w.heap.size < w1.heap.size:=by have:=hb.size;simp at this;omega
      clear qTN
      have HBW:Hid (Below w.heap.size w w1):=hid hh
      rw [H1.out]
      have n14:=TN.out.at 14 _ rfl
      have n15:=TN.out.at 15 _ rfl
      have n16:=TN.out.at 16 _ rfl
      clear hb hh hal)
   | (go_at_call 71
      have hal:Below w1.heap.size w1 w1:=Below.refl _ _
      refine (zbi _ _ _ _).mono ?_
      rintro e w2 ⟨rfl,hb⟩
      have hh:Below w1.heap.size w1 w2:=hal.trans (hb.mono hal.size)
      replace TN:=hid (TN.out.below yTN hh)
      replace yTN:=Nat.lt_of_lt_of_le yTN hh.size
      replace HBW:=hid (HBW.out.trans (hh.mono HBW.out.size))
      clear n14 n15 n16
      rw [H2.out]
      have n14:=TN.out.at 14 _ rfl
      have n15:=TN.out.at 15 _ rfl
      have n16:=TN.out.at 16 _ rfl
      clear hb hh hal))
  go_ret
  exact⟨rfl,HBW.out⟩
 ·have H1:=hid h1
  have H2:=hid h2
  clear h1 h2
  go_enter Tryd.func90,Tryd.ntmps90
  go_wp2_with (first
   | (go_at_call 71
      have hal:Below w.heap.size w (w.alloc (.cells #[x0,x1,x2,.int .i64 K,.int .i64 S,.int .i64 P,.int .i64 O,.int .i8 Z,.int .i8 Y,.slice WA nW cW,.slice BA nB cB,.int .i32 m1,.int .i64 s1,.int .i8 z1,.int .i32 m2,.int .i64 s2,.int .i8 z2,.int .i8 lo,.int .i8 hi] 67)):=(Below.refl _ _).alloc (by first | exact le_refl _ | (simp;done) | (simp;omega)) _
      refine (zbi _ _ _ _).mono ?_
      rintro e w1 ⟨rfl,hb⟩
      have hh:Below w.heap.size w w1:=hal.trans (hb.mono hal.size)
      have qTN:=(zao.new x0 x1 x2 (.int .i8 Y) (.int .i32 m1) (.int .i64 s1) (.int .i8 z1) (.int .i32 m2) (.int .i64 s2) (.int .i8 z2) (.int .i8 lo) (.int .i8 hi) K S P O Z WA BA nW cW nB cB 67) w
      try simp only [World.size_alloc] at qTN
      have TN:=hid (qTN.below (by first | (simp;done) | (simp;omega)) hb)
      have yTN:w.heap.size < w1.heap.size:=by have:=hb.size;simp at this;omega
      clear qTN
      have HBW:Hid (Below w.heap.size w w1):=hid hh
      rw [H1.out]
      have n14:=TN.out.at 14 _ rfl
      have n15:=TN.out.at 15 _ rfl
      have n16:=TN.out.at 16 _ rfl
      clear hb hh hal)
   | (go_at_call 71
      have hal:Below w1.heap.size w1 w1:=Below.refl _ _
      refine (zbi _ _ _ _).mono ?_
      rintro e w2 ⟨rfl,hb⟩
      have hh:Below w1.heap.size w1 w2:=hal.trans (hb.mono hal.size)
      replace TN:=hid (TN.out.below yTN hh)
      replace yTN:=Nat.lt_of_lt_of_le yTN hh.size
      replace HBW:=hid (HBW.out.trans (hh.mono HBW.out.size))
      clear n14 n15 n16
      rw [H2.out]
      have n14:=TN.out.at 14 _ rfl
      have n15:=TN.out.at 15 _ rfl
      have n16:=TN.out.at 16 _ rfl
      clear hb hh hal))
  go_ret
  exact⟨rfl,HBW.out⟩
end CJoin
end
end Go.Proofs.YtoffcaldhojjoaaDoor
