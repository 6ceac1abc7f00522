/- -/
import Derived.Test.YtchpdhhpkljdhaaGreatDoorGD18
open Go.Value renaming int→Jj
open Go.IntKind renaming i64→Jq
open Go.Lib (hid)
open Nat (le_refl lt_of_succ_lt lt_succ_self)
set_option linter.unusedVariables false
set_option linter.unusedSimpArgs false
set_option maxRecDepth 100000
set_option maxHeartbeats 16000000
namespace Go.Proofs.YtchpdhhpkljdhaaGreatDoor
namespace CConv
end CConv
namespace CSat
end CSat
open Go Go.ChangeShapes Go.WideShapes Go.ChangeAt Go.RowKit Go.Deep
section
namespace CPool
open Go Go.ChangeShapes Go.WideShapes Go.ChangeAt Go.RowKit
open Plain CSat CShape CTensor CConv
theorem refNear_to (s m:Int) (s1 : -4611686018427387904≤s) (s2:s≤4611686018427387904) (m2:m≤9223372036854775807) (R:Int) (hR:nearZ s m=R) (w:World) :
  Calls Tryz.prog 112 #[Jj Jq s,Jj Jq m] w fun e w'=>e=.returned (Jj Jq R)∧∃ q,w'=w.drewN q:=by
 by_cases hm:m < 1
 ·have h0:R=0:=by rw [← hR];unfold nearZ;rw [if_pos hm]
  subst h0
  clear hR
  go_enter Tryz.func112,Tryz.ntmps112
  go_wp2_with fail
  go_ret
  exact⟨rfl,0,rfl⟩
 ·have hm1:1≤m:=by omega
  have hm9:¬ m=0:=by omega
  obtain⟨z,hz⟩:∃ z,z=(if s < 0 then -s else s):=⟨_,rfl⟩
  have hz0:0≤z∧z≤4611686018427387904:=by
   rw [hz];split <;> omega
  have hzr:(2 * z+m) / (2 * m)=if m - z % m≤z % m then z / m+1 else z / m:=near_way hm1 hz0.1
  have hRz:R=if s < 0 then -((2 * z+m) / (2 * m)) else (2 * z+m) / (2 * m):=by
   rw [← hR,hz]
   unfold nearZ
   rw [if_neg hm]
   by_cases hs:s < 0
   ·rw [if_pos hs,if_pos hs,if_pos hs]
   ·rw [if_neg hs,if_neg hs,if_neg hs]
  rw [hzr] at hRz
  have r1:0≤z % m:=Int.emod_nonneg _ Zb3
  have r2:z % m < m:=Int.emod_lt_of_pos _ Zb3
  have q1:0≤z / m:=Int.ediv_nonneg hz0.1 Zb3
  have q2:z / m≤z:=Int.ediv_le_self _ hz0.1
  have d1:z.tdiv m=z / m:=Int.tdiv_eq_ediv_of_nonneg hz0.1
  have d2:z.tmod m=z % m:=Int.tmod_eq_emod_of_nonneg hz0.1
  generalize z / m=q at hRz q1 q2 d1
  generalize z % m=r at hRz r1 r2 d2
  refine Zac ?_;intro w1 w2 w3 w4
  have w5:IntKind.i64.wrap (-(q+1)) = -(q+1):=IntWalk.i64_in _ Zb3
  have w6:IntKind.i64.wrap (-q) = -q:=IntWalk.i64_in _ Zb3
  have w7:IntKind.i64.wrap (-s) = -s:=IntWalk.i64_in _ Zb3
  clear hR hzr
  by_cases hs:s < 0 <;> by_cases hr:m - r≤r
  ·rw [if_pos hs] at hz
   rw [if_pos hs,if_pos hr] at hRz
   exact Z51
  ·rw [if_pos hs] at hz
   rw [if_pos hs,if_neg hr] at hRz
   exact Z51
  ·rw [if_neg hs] at hz
   rw [if_neg hs,if_pos hr] at hRz
   exact Z51
  ·rw [if_neg hs] at hz
   rw [if_neg hs,if_neg hr] at hRz
   exact Z51
def meanZ (zs:List Int):Int:=IntKind.i8.wrap (nearZ (psum (fun i=>zs.getD i 0) zs.length) zs.length)
theorem refMean_to (A:Option Addr) (zs:List Int) (n c:Nat) (hn:zs.length=n) (hn2:n≤1000000) (hz:I8b zs) (w:World) {B:Nat} (hr:Kit.Rd w B A (I8s zs)) :
  Calls Tryz.prog 69 #[.slice A n c] w fun e w'=>e=.returned (.int .i8 (meanZ zs))∧∃ q,w'=w.drewN q:=by
 have hM:IntKind.i8.wrap (nearZ (psum (fun i=>zs.getD i 0) n) n)=meanZ zs:=by unfold meanZ;rw [hn]
 have HM:=hid hM
 have HR:=hid hr
 have HN:=hid hn
 have HZ:=hid hz
 clear hM hr hn hz
 go_enter Tryz.func69,Tryz.ntmps69
 go_wp2_with fail
 go_loopw [3,4] (fun s u wr=>∃ k:Nat,k≤n∧u=Jj Jq k∧s=Jj Jq (psum (fun i=>zs.getD i 0) k)∧Hid (wr=w)) (fun _ u _=>n - (intOf u).toNat)
 case atStart=>exact⟨0,Nat.zero_le _,rfl,rfl,hid rfl⟩
 case round =>
  obtain⟨k,hk,rfl,rfl,hw⟩:=hrel
  obtain rfl:=hw.out
  clear hw
  obtain⟨q1,q2⟩:=psum_bd (G:=fun i=>zs.getD i 0) (b:=128) (n:=k) (fun j _=>by have:=HZ.out j;omega)
  by_cases hlt:k < n
  ·obtain⟨b1,o1,rfl,_,hcx0⟩:=zax HR.out (j:=0) Zbe
   have hcx:=hcx0 k Zbe
   refine Z93 ?_;intro hk0
   have hkn:(k:Int) < (n:Int):=by omega
   obtain⟨x1,x2⟩:=HZ.out k
   have hnext:psum (fun i=>zs.getD i 0) k+zs.getD k 0=psum (fun i=>zs.getD i 0) (k+1):=rfl
   generalize zs.getD k 0=x at hcx x1 x2 hnext
   obtain⟨u1,hu1⟩:∃ u1,psum (fun i=>zs.getD i 0) k=u1:=⟨_,rfl⟩
   obtain⟨u2,hu2⟩:∃ u2,psum (fun i=>zs.getD i 0) (k+1)=u2:=⟨_,rfl⟩
   have HU2:=hid hu2
   rw [hu1,hu2] at hnext
   rw [hu1] at q1 q2 ⊢
   have e1:IntKind.i64.wrap x=x:=IntWalk.i64_in _ Zb3
   have e2:IntKind.i64.wrap (u1+x)=u2:=by rw [IntWalk.i64_in _ Zb3,hnext]
   clear hu1 hu2 hcx0 hnext
   go_wp2_with fail
   go_roundw
   case rel=>first | exact⟨k+1,by omega,by go_num,congrArg _ HU2.out.symm,hid rfl⟩ | exact⟨k+1,by omega,by go_num,congrArg _ HU2.out.symm,hid trivial⟩
   case measure=>simp [intOf];omega
  ·obtain rfl:k=n:=by omega
   have hmz:=HM.out
   generalize psum (fun i=>zs.getD i 0) k=u1 at q1 q2 hmz ⊢
   obtain⟨R,hR⟩:∃ R,nearZ u1 (k:Int)=R:=⟨_,rfl⟩
   have HRR:=hid hR
   rw [hR] at hmz
   clear hR
   go_wp2_with (go_at_call 112;(refine (refNear_to u1 (k:Int) Zb3 Zb3 Zb3 R HRR.out _).mono ?_);rintro e w1 ⟨rfl,q,rfl⟩)
   go_ret
   exact⟨rfl,q,rfl⟩
theorem near_to (s m:Int) (s1 : -4611686018427387904≤s) (s2:s≤4611686018427387904) (m2:m≤9223372036854775807) (R:Int) (hR:nearZ s m=R) (w:World) :
  Calls Tryz.prog 48 #[Jj Jq s,Jj Jq m] w fun e w'=>e=.returned (Jj Jq R)∧∃ q,w'=w.drewN q:=by
 by_cases hm:m < 1
 ·have h0:R=0:=by rw [← hR];unfold nearZ;rw [if_pos hm]
  subst h0
  clear hR
  go_enter Tryz.func48,Tryz.ntmps48
  go_wp2_with fail
  go_ret
  exact⟨rfl,0,rfl⟩
 ·have hm1:1≤m:=by omega
  have hm9:¬ m=0:=by omega
  by_cases hs:s < 0
  ·obtain⟨z,hz⟩:∃ z,z = -s:=⟨_,rfl⟩
   have hz0:0≤z∧z≤4611686018427387904:=by omega
   have hzr:(2 * z+m) / (2 * m)=if m - z % m≤z % m then z / m+1 else z / m:=near_way hm1 hz0.1
   have hRz:R = -((2 * z+m) / (2 * m)):=by
    rw [← hR,hz];unfold nearZ;rw [if_neg hm,if_pos hs]
   rw [hzr] at hRz
   have r1:0≤z % m:=Int.emod_nonneg _ Zb3
   have r2:z % m < m:=Int.emod_lt_of_pos _ Zb3
   have q1:0≤z / m:=Int.ediv_nonneg hz0.1 Zb3
   have q2:z / m≤z:=Int.ediv_le_self _ hz0.1
   have e:s = -z:=by omega
   have d1:s.tdiv m = -(z / m):=by rw [e,Int.neg_tdiv,Int.tdiv_eq_ediv_of_nonneg hz0.1]
   have d2:s.tmod m = -(z % m):=by rw [e,Int.neg_tmod,Int.tmod_eq_emod_of_nonneg hz0.1]
   generalize z / m=q at hRz q1 q2 d1
   generalize z % m=r at hRz r1 r2 d2
   obtain⟨q',hq'⟩:∃ q', -q=q':=⟨_,rfl⟩
   obtain⟨r',hr'⟩:∃ r', -r=r':=⟨_,rfl⟩
   rw [hq'] at d1
   rw [hr'] at d2
   have w1:IntKind.i64.wrap q'=q':=IntWalk.i64_in _ Zb3
   have w2:IntKind.i64.wrap r'=r':=IntWalk.i64_in _ Zb3
   have w3:IntKind.i64.wrap (m+r')=m+r':=IntWalk.i64_in _ Zb3
   have w4:IntKind.i64.wrap (q' - 1)=q' - 1:=IntWalk.i64_in _ Zb3
   have w5:IntKind.i64.wrap (-r') = -r':=IntWalk.i64_in _ Zb3
   have w6:¬ r' > 0:=by omega
   clear hR hzr hz0
   by_cases hr:m - r≤r
   ·have hRq:R=q' - 1:=by rw [hRz,if_pos hr];omega
    have t1:r' < 0:=by omega
    have t2 : -r' ≥ m+r':=by omega
    subst hRq
    clear hRz hq' hr' hz e hr r1 r2 q1 q2
    exact Z4w
   ·have hRq:R=q':=by rw [hRz,if_neg hr];omega
    subst hRq
    by_cases t1:r' < 0
    ·have t2:¬ -r' ≥ m+r':=by omega
     clear hRz hr' hz e hr r1 r2 q1 q2
     exact Z4w
    ·clear hRz hr' hz e hr r1 r2 q1 q2
     exact Z4w
  ·have hz0:0≤s:=by omega
   have hzr:(2 * s+m) / (2 * m)=if m - s % m≤s % m then s / m+1 else s / m:=near_way hm1 hz0
   have hRz:R=(2 * s+m) / (2 * m):=by
    rw [← hR];unfold nearZ;rw [if_neg hm,if_neg hs]
   rw [hzr] at hRz
   have r1:0≤s % m:=Int.emod_nonneg _ Zb3
   have r2:s % m < m:=Int.emod_lt_of_pos _ Zb3
   have q1:0≤s / m:=Int.ediv_nonneg hz0 Zb3
   have q2:s / m≤s:=Int.ediv_le_self _ hz0
   have d1:s.tdiv m=s / m:=Int.tdiv_eq_ediv_of_nonneg hz0
   have d2:s.tmod m=s % m:=Int.tmod_eq_emod_of_nonneg hz0
   generalize s / m=q at hRz q1 q2 d1
   generalize s % m=r at hRz r1 r2 d2
   refine Zac ?_;intro w1 w2 w3 w4
   have w6:¬ r < 0:=by omega
   clear hR hzr
   by_cases hr:m - r≤r
   ·have hRq:R=q+1:=by rw [hRz,if_pos hr]
    have t1:r > 0:=by omega
    have t2:r ≥ m - r:=by omega
    subst hRq
    clear hRz hr r1 r2 q1 q2 hz0
    exact Z4w
   ·have hRq:R=q:=by rw [hRz,if_neg hr]
    subst hRq
    by_cases t1:r > 0
    ·have t2:¬ r ≥ m - r:=by omega
     clear hRz hr r1 r2 q1 q2 hz0
     exact Z4w
    ·clear hRz hr r1 r2 q1 q2 hz0
     exact Z4w
end CPool
end
section
namespace CJoin
open Plain CSat CFix CShape CTensor CConv
def NBd (Z Y m1 z1 m2 z2 lo hi:Int):Prop:=(-128≤Z∧Z≤127)∧(-128≤Y∧Y≤127)∧(-2147483648≤m1∧m1≤2147483647)∧(-128≤z1∧z1≤127)∧(-2147483648≤m2∧m2≤2147483647)∧(-128≤z2∧z2≤127)∧(-128≤lo∧lo≤127)∧(-128≤hi∧hi≤127)
def oneZ (x y Z Y m1 s1 z1 m2 s2 lo hi:Int):Int :=
 if (zau m1 s1 && zau m2 s2)=true then zcd (zbo ((x - Z) * m1) s1.toNat+zbo ((y - Y) * m2) s2.toNat+z1) lo hi else 0
theorem clampZ_bd (v lo hi:Int) (hl1 : -128≤lo) (hl2:lo≤127) (hh1 : -128≤hi) (hh2:hi≤127) : -128≤zcd v lo hi∧zcd v lo hi≤127:=by
 unfold zcd;split <;> (try split) <;> omega
theorem rightB_yes {m s:Int} (h:zau m s=true):0 < m∧0≤s∧s≤62:=by simpa [zau] using h
theorem jclamp_to (v lo hi r:Int) (h:zcd v lo hi=r) (hl1 : -128≤lo) (hl2:lo≤127) (hh1 : -128≤hi) (hh2:hi≤127) (w:World) :
  Calls Tryz.prog 101 #[Jj Jq v,.int .i8 lo,.int .i8 hi] w fun e w'=>e=.returned (.int .i8 r)∧w=w':=by
 subst h
 by_cases h1:v < lo
 ·go_enter Tryz.func101,Tryz.ntmps101
  exact Z2o
 ·by_cases h2:v > hi
  ·go_enter Tryz.func101,Tryz.ntmps101
   exact Z2e
  ·go_enter Tryz.func101,Tryz.ntmps101
   exact Z2f
theorem term_abs {x Z m:Int} (hx1 : -128≤x) (hx2:x≤127) (hz1 : -128≤Z) (hz2:Z≤127) (hm1:0 < m) (hm2:m≤2147483647) : -547608329985≤(x - Z) * m∧(x - Z) * m≤547608329985:=by
 have h1:(x - Z) * m≤255 * 2147483647:=by
  by_cases h:0≤x - Z
  ·exact Int.mul_le_mul Zb3 Zb3 Zb3 Zb3
  ·exact Int.le_trans (Int.mul_nonpos_of_nonpos_of_nonneg Zb3 Zb3) Zb3
 have h2:(Z - x) * m≤255 * 2147483647:=by
  by_cases h:0≤Z - x
  ·exact Int.mul_le_mul Zb3 Zb3 Zb3 Zb3
  ·exact Int.le_trans (Int.mul_nonpos_of_nonpos_of_nonneg Zb3 Zb3) Zb3
 have h3:(Z - x) * m = -((x - Z) * m):=by rw [← Int.neg_mul];congr 1;omega
 omega
theorem round_term {x Z m s:Int} (hx1 : -128≤x) (hx2:x≤127) (hz1 : -128≤Z) (hz2:Z≤127) (hm2:m≤2147483647) (h:zau m s=true) : -547608329985≤zbo ((x - Z) * m) s.toNat∧zbo ((x - Z) * m) s.toNat≤547608329985:=by
 obtain⟨h1,h2,h3⟩:=rightB_yes h
 obtain⟨b1,b2⟩:=term_abs hx1 hx2 hz1 hz2 h1 hm2
 have:=round_abs ((x - Z) * m) s.toNat Zb3 Zb3 Zb3
 omega
theorem scaled_to (x Z m s z t:Int) (hx1 : -128≤x) (hx2:x≤127) (hz1 : -128≤Z) (hz2:Z≤127) (hm2:m≤2147483647) (h:zau m s=true) (ht:zbo ((x - Z) * m) s.toNat=t) (w:World) :
  Calls Tryz.prog 102 #[.int .i8 x,.int .i8 Z,.agg #[.int .i32 m,Jj Jq s,.int .i8 z]] w fun e w'=>e=.returned (Jj Jq t)∧Below w.heap.size w w':=by
 obtain⟨h1,h2,h3⟩:=rightB_yes h
 obtain⟨y,hy⟩:∃ y,x - Z=y:=⟨_,rfl⟩
 have hw:IntKind.i32.wrap (x - Z)=y:=by rw [IntWalk.i32_in _ Zb3,hy]
 have e1:IntKind.i32.wrap x=x:=IntWalk.i32_in _ Zb3
 have e2:IntKind.i32.wrap Z=Z:=IntWalk.i32_in _ Zb3
 have y1 : -2147483648≤y:=by omega
 have y2:y≤2147483647:=by omega
 have m1 : -2147483648≤m:=by omega
 rw [hy] at ht
 have HT:=hid ht
 clear hy ht h
 go_enter Tryz.func102,Tryz.ntmps102
 go_wp2_with (go_at_call 136;refine (scale_int y m s t h2 h3 y1 y2 m1 hm2 HT.out _).mono ?_;rintro e w' ⟨rfl,rfl⟩)
 exact Z1a
theorem zb0 (m s z:Int) (w:World):Calls Tryz.prog 42 #[.agg #[.int .i32 m,Jj Jq s,.int .i8 z]] w fun e w'=>e=.returned (.bool (zau m s))∧Below w.heap.size w w':=by
 cases h:zau m s
 ·exact isRight_no m s z h w
 ·exact zcu m s z h w
theorem za8 (m s z:Int) (w:World):Calls Tryz.prog 64 #[.agg #[.int .i32 m,Jj Jq s,.int .i8 z]] w fun e w'=>e=.returned (.bool (zau m s))∧Below w.heap.size w w':=by
 cases h:zau m s
 ·exact zdg m s z h w
 ·exact zcm m s z h w
theorem scales_to (x0 x1 x2:Value) (K S P O Z Y:Int) (WA BA:Option Addr) (nW cW nB cB:Nat) (m1 s1 z1 m2 s2 z2 lo hi:Int) (w:World) :
  Calls Tryz.prog 49 #[.agg #[x0,x1,x2,Jj Jq K,Jj Jq S,Jj Jq P,Jj Jq O,.int .i8 Z,.int .i8 Y,.slice WA nW cW,.slice BA nB cB,.int .i32 m1,Jj Jq s1,.int .i8 z1,.int .i32 m2,Jj Jq s2,.int .i8 z2,.int .i8 lo,.int .i8 hi]] w fun e w'=>e=.returned (.bool (zau m1 s1 && zau m2 s2))∧Below w.heap.size w w':=by
 cases h1:zau m1 s1 <;> cases h2:zau m2 s2
 ·exact Z12
 ·exact Z12
 ·exact Zt
 ·exact Zt
end CJoin
end
section
namespace CAct
open Plain CSat CFix CShape CTensor CConv
def NBd (Z Y m1 z1 m2 z2 lo hi:Int):Prop:=(-128≤Z∧Z≤127)∧(-128≤Y∧Y≤127)∧(-2147483648≤m1∧m1≤2147483647)∧(-128≤z1∧z1≤127)∧(-2147483648≤m2∧m2≤2147483647)∧(-128≤z2∧z2≤127)∧(-128≤lo∧lo≤127)∧(-128≤hi∧hi≤127)
theorem aone_to (x:Int) (hx1 : -128≤x) (hx2:x≤127) (x0 x1 x2:Value) (K S P O Z Y:Int) (WA BA:Option Addr) (nW cW nB cB:Nat) (m1 s1 z1 m2 s2 z2 lo hi:Int) (hnb:NBd Z Y m1 z1 m2 z2 lo hi) (R:Int) (hR:heldZ (x - Z) m1 s1 z1 lo hi=R) (w:World) :
  Calls Tryz.prog 54 #[.int .i8 x,.agg #[x0,x1,x2,Jj Jq K,Jj Jq S,Jj Jq P,Jj Jq O,.int .i8 Z,.int .i8 Y,.slice WA nW cW,.slice BA nB cB,.int .i32 m1,Jj Jq s1,.int .i8 z1,.int .i32 m2,Jj Jq s2,.int .i8 z2,.int .i8 lo,.int .i8 hi]] w fun e w'=>e=.returned (.int .i8 R)∧Below w.heap.size w w':=by
 obtain⟨⟨hZ1,hZ2⟩, -,⟨hm3,hm1⟩,⟨hz1,hz2⟩, -, -,⟨hl1,hl2⟩,⟨hh1,hh2⟩⟩:=hnb
 refine Z7x ?_;clear hR;intro e1 e2 e3 HAL HR TN
 go_enter Tryz.func54,Tryz.ntmps54
 have n7:=TN.at 7 _ rfl
 have n11:=TN.at 11 _ rfl
 have n12:=TN.at 12 _ rfl
 have n13:=TN.at 13 _ rfl
 have n17:=TN.at 17 _ rfl
 have n18:=TN.at 18 _ rfl
 clear TN
 go_wp2_with (go_at_call 103;(refine (held _ _ _ _ _ _ Zb3 Zb3 hm3 hm1 hz1 hz2 hl1 hl2 hh1 hh2 _).mono ?_);rintro e w1 ⟨rfl,hb⟩)
 exact Z2r
theorem aref_to (x:Int) (hx1 : -128≤x) (hx2:x≤127) (x0 x1 x2:Value) (K S P O Z Y:Int) (WA BA:Option Addr) (nW cW nB cB:Nat) (m1 s1 z1 m2 s2 z2 lo hi:Int) (hnb:NBd Z Y m1 z1 m2 z2 lo hi) (R:Int) (hR:heldZ (x - Z) m1 s1 z1 lo hi=R) (w:World) :
  Calls Tryz.prog 71 #[.int .i8 x,.agg #[x0,x1,x2,Jj Jq K,Jj Jq S,Jj Jq P,Jj Jq O,.int .i8 Z,.int .i8 Y,.slice WA nW cW,.slice BA nB cB,.int .i32 m1,Jj Jq s1,.int .i8 z1,.int .i32 m2,Jj Jq s2,.int .i8 z2,.int .i8 lo,.int .i8 hi]] w fun e w'=>e=.returned (.int .i8 R)∧Below w.heap.size w w':=by
 obtain⟨⟨hZ1,hZ2⟩, -,⟨hm3,hm1⟩,⟨hz1,hz2⟩, -, -,⟨hl1,hl2⟩,⟨hh1,hh2⟩⟩:=hnb
 refine Z7x ?_;clear hR;intro e1 e2 e3 HAL HR TN
 go_enter Tryz.func71,Tryz.ntmps71
 have n7:=TN.at 7 _ rfl
 have n11:=TN.at 11 _ rfl
 have n12:=TN.at 12 _ rfl
 have n13:=TN.at 13 _ rfl
 have n17:=TN.at 17 _ rfl
 have n18:=TN.at 18 _ rfl
 clear TN
 go_wp2_with (go_at_call 115;(refine (refHeldQ _ _ _ _ _ _ Zb3 Zb3 hm3 hm1 hz1 hz2 hl1 hl2 hh1 hh2 _).mono ?_);rintro e w1 ⟨rfl,hb⟩)
 exact Z2r
theorem zb0 (m s z:Int) (w:World):Calls Tryz.prog 42 #[.agg #[.int .i32 m,Jj Jq s,.int .i8 z]] w fun e w'=>e=.returned (.bool (zau m s))∧Below w.heap.size w w':=by
 cases h:zau m s
 ·exact isRight_no m s z h w
 ·exact zcu m s z h w
theorem za8 (m s z:Int) (w:World):Calls Tryz.prog 64 #[.agg #[.int .i32 m,Jj Jq s,.int .i8 z]] w fun e w'=>e=.returned (.bool (zau m s))∧Below w.heap.size w w':=by
 cases h:zau m s
 ·exact zdg m s z h w
 ·exact zcm m s z h w
end CAct
end
section
namespace CTensor
open Go Go.ChangeShapes Go.WideShapes Go.ChangeAt Go.RowKit
open Plain CSat CShape
theorem flat_tens {H W C m:Int} {n:Nat} {b:Bool} (hm:zaz H W C=m) (hb:tensB H W C n=b):tensB 1 1 m n=b:=by
 cases hr:zam H W C
 ·rw [zb6 hr] at hm
  subst hm hb
  have h0:zam 1 1 0=false:=by decide
  simp [tensB,hr,h0]
 ·rw [zay hr] at hm
  have hs:=hr
  simp only [zam,decide_eq_true_eq] at hs
  obtain⟨h1,h2,h3,h4,h5,h6,h7⟩:=hs
  have:=zcs h1 h2 h3 h4 h5 h6
  have hs1:zam 1 1 m=true:=by simp [zam];omega
  rw [← hb]
  simp only [tensB,hr,hs1,Bool.true_and]
  rw [hm];simp
theorem flat_yes (H W C:Int) (A:Option Addr) (zs:List Int) (n c:Nat) (hn:zs.length=n) (hl:n≤1000000) (ht:tensB H W C n=true) {B:Nat} (w:World) (hB:B≤w.heap.size) (hr:Kit.Rd w B A (zs.map (.int .i8))) :
  Calls Tryz.prog 19 #[.agg #[Jj Jq H,Jj Jq W,Jj Jq C,.slice A n c]] w (Made w 1 1 n n zs (Jj Jq 0)):=by
 have hm:zaz H W C=(n:Int):=by
  simp only [tensB,Bool.and_eq_true,decide_eq_true_eq] at ht
  rw [zay ht.1];exact ht.2.symm
 have HN:=hid hn
 have HR:=hid hr
 have HT:=hid (flat_tens hm ht)
 have HM:=hid hm
 clear hn hr ht hm
 go_enter Tryz.func19,Tryz.ntmps19
 go_wp2_with fail
 refine Z8f ?_;intro hbox HFR
 have HB:Hid (Below w.heap.size w ((w.alloc (.cells #[Jj Jq H,Jj Jq W,Jj Jq C,.slice A n c] 32)).alloc (.cells #[Jj Jq 0,Jj Jq 0,Jj Jq 0,.slice none 0 0] 32)).drew):=hid (((Below.refl _ _).alloc (le_refl _) _).alloc Zb7 _).drew
 have hz:w.heap.size+2≤((w.alloc (.cells #[Jj Jq H,Jj Jq W,Jj Jq C,.slice A n c] 32)).alloc (.cells #[Jj Jq 0,Jj Jq 0,Jj Jq 0,.slice none 0 0] 32)).drew.heap.size:=by simp
 refine wp_region_held_drew (S:=BoxAt w.heap.size H W C A n c) Zb5 hbox (fun hHeld=>?_)
 clear hbox
 generalize ((w.alloc (.cells #[Jj Jq H,Jj Jq W,Jj Jq C,.slice A n c] 32)).alloc (.cells #[Jj Jq 0,Jj Jq 0,Jj Jq 0,.slice none 0 0] 32)).drew=W1 at HFR HB hz hHeld ⊢
 refine Tk.y 0 (v:=?_) rfl ?_ ?_
 rotate_left
 ·exact Z3d
 refine Z5y ?_
 refine Tk.y 1 (v:=?_) rfl ?_ ?_
 rotate_left
 ·exact Z3d
 refine Z5y ?_
 refine Tk.y 4 (v:=?_) rfl ?_ ?_
 rotate_left
 ·exact Z3d
 refine Z5y ?_
 refine Tk.y 5 (v:=?_) rfl ?_ ?_
 rotate_left
 ·exact Z3d
 refine Z5y ?_
 refine Tk.s 2 rfl (fun K hK=>?_)
 go_simp
 go_at_call 44
 refine (zb3 H W C (n:Int) HM.out _).mono ?_
 rintro e w1 ⟨rfl,hb⟩
 refine Z85 ?_;try clear HFR HB hz;intro hS1 HFR HB hz
 clear hHeld
 clear hb
 dsimp only
 refine hK.out _ _ ?_ (fun hHeld=>?_)
 ·exact hS1
 clear hK K
 refine Z5y ?_
 refine Z94 ?_
 refine Z5y ?_
 refine Tk.s 6 rfl (fun K hK=>?_)
 go_simp
 go_at_call 59
 refine (of_yes 1 1 n A zs n c HN.out hl HT.out (B:=B) _ Zb3 (HR.out.below (HB.out.mono hB))).mono ?_
 rintro e w2 ⟨v2,rfl,ho2,hb⟩
 obtain⟨A2,c2,rfl,_,_,_⟩:=Kit.zaj ho2
 have HO:=hid (Kit.zah ho2 (show w.heap.size+2≤w1.heap.size by omega))
 refine Z85 ?_;try clear HFR HB hz;intro hS1 HFR HB hz
 clear hHeld
 clear hb ho2
 obtain⟨⟨z0,z1,z2,z3⟩,z4,z5,z6,z7⟩:=HFR.out
 dsimp only
 refine hK.out _ _ ?_ (fun hHeld=>?_)
 ·exact hS1
 clear hK K
 refine Z5y ?_
 refine Z9w ?_
 refine Z5y ?_
 refine Z9f ?_
 refine Z5y ?_
 refine Tk.s 9 rfl (fun K hK=>?_)
 go_simp
 refine hK.out _ _ ?_ (fun hHeld=>?_)
 ·exact Z2c
 clear hK K
 refine Z5y ?_
 refine Z9o ?_
 refine Z5y ?_
 refine Z6y ?_
 go_wp2_with fail
 refine bodyPost_ret (Kit.zaa rfl _ _ (w.heap.size+1) 0 [Jj Jq 1,Jj Jq 1,Jj Jq n,.slice A2 n c2] _ rfl (zao Zb6 Zb6 Zb6 Zb6) Tryz.underlying32 rfl Zb5) rfl ?_
 exact Z45
def zbt (B:Nat) (H W C:Int) (wd:World):Prop :=
 wd.cell? ⟨B,0,none⟩=some (Jj Jq H)∧wd.cell? ⟨B,1,none⟩=some (Jj Jq W)∧wd.cell? ⟨B,2,none⟩=some (Jj Jq C)
theorem zbt.below {B B':Nat} {H W C:Int} {w w':World} (h:zbt B H W C w) (hB:B < B') (hb:Below B' w w'):zbt B H W C w' :=
 ⟨(hb.cell (p:=⟨B,0,none⟩) hB).trans h.1,(hb.cell (p:=⟨B,1,none⟩) hB).trans h.2.1,(hb.cell (p:=⟨B,2,none⟩) hB).trans h.2.2⟩
theorem zbt.new (H W C:Int) (T:TypeId) (w:World):zbt w.heap.size H W C (w.alloc (.cells #[Jj Jq H,Jj Jq W,Jj Jq C] T)) :=
 ⟨Kit.zan _ _ _ _,Kit.zan _ _ _ _,Kit.zan _ _ _ _⟩
theorem zbt.stores {B B2:Nat} {H W C:Int} {w:World} (h:zbt B H W C w) (hne:B≠B2) (a b d e:Value) :
  zbt B H W C ((((w.setCell ⟨B2,0,none⟩ a).setCell ⟨B2,1,none⟩ b).setCell ⟨B2,2,none⟩ d).setCell ⟨B2,3,none⟩ e):=by
 refine Zab ?_;intro k
 unfold zbt
 simp only [k]
 exact h
theorem fill_no (H W C x:Int) (hs:zam H W C=false) (w:World) :
  Calls Tryz.prog 104 #[.agg #[Jj Jq H,Jj Jq W,Jj Jq C],.int .i8 x] w fun e w'=>e=.returned (.tuple #[.agg #[Jj Jq 0,Jj Jq 0,Jj Jq 0,.slice none 0 0],Jj Jq 5])∧Below w.heap.size w w':=by
 have HS:=hid hs
 clear hs
 go_enter Tryz.func104,Tryz.ntmps104
 go_wp2_with (go_at_call 43;((with_reducible refine (CShape.zak H W C false HS.out _).mono ?_);(rintro e w1 ⟨rfl,hb⟩;obtain⟨hc,hf⟩:=Kit.bcell hb;have hz:w.heap.size+2≤w1.heap.size:=Zbb;have HB:Hid (Below w.heap.size w w1):=hid (Below.trans (((Below.refl _ _).alloc (le_refl _) _).alloc Zb7 _) (hb.mono Zba)))))
 refine bodyPost_ret (Kit.zaa rfl _ _ (w.heap.size+1) 0 [Jj Jq 0,Jj Jq 0,Jj Jq 0,.slice none 0 0] _ rfl (zao Zb6 Zb6 Zb6 Zb6) Tryz.underlying32 rfl Zb5) rfl ?_
 exact⟨rfl,((((HB.out.setCell (p:=⟨w.heap.size+1,0,none⟩) Zb7 _).setCell (p:=⟨w.heap.size+1,1,none⟩) Zb7 _).setCell (p:=⟨w.heap.size+1,2,none⟩) Zb7 _).setCell (p:=⟨w.heap.size+1,3,none⟩) Zb7 _)⟩
theorem fill_yes (H W C x:Int) (n:Nat) (hs:zam H W C=true) (hn:H * W * C=(n:Int)) (w:World) :
  Calls Tryz.prog 104 #[.agg #[Jj Jq H,Jj Jq W,Jj Jq C],.int .i8 x] w (Made w H W C n (List.replicate n x) (Jj Jq 0)):=by
 have hm:zaz H W C=(n:Int):=by rw [zay hs];exact hn
 have hs2:=hs
 simp only [zam,decide_eq_true_eq] at hs2
 obtain⟨g1,g2,g3,g4,g5,g6,g7⟩:=hs2
 have hpr:=zcs g1 g2 g3 g4 g5 g6
 have h1:1≤n:=by omega
 have hl:n≤1000000:=by omega
 have HS:=hid hs
 have HM:=hid hm
 clear hs hn hm hpr g1 g2 g3 g4 g5 g6 g7
 go_enter Tryz.func104,Tryz.ntmps104
 go_wp2_with (go_at_call 43;((with_reducible refine (CShape.zak H W C true HS.out _).mono ?_);(rintro e w1 ⟨rfl,hb⟩)))
 have HB:Hid (Below w.heap.size w w1):=hid (Below.trans (((Below.refl _ _).alloc (le_refl _) _).alloc Zb7 _) (hb.mono Zba))
 have hz:w.heap.size+2≤w1.heap.size:=by have:=hb.size;simp at this;omega
 have hbox:zbt w.heap.size H W C w1.drew :=
  ((zbt.new H W C 30 w).below (lt_succ_self _) ((Below.refl _ _).alloc Zb7 (.cells #[Jj Jq 0,Jj Jq 0,Jj Jq 0,.slice none 0 0] 32))).below Zba hb.drew
 have HFR:Hid (zbs (w.heap.size+1) w1.drew):=hid ((zbs.new 32 (w.alloc (.cells #[Jj Jq H,Jj Jq W,Jj Jq C] 30)) (w.heap.size+1) Zb7).below Zb7 hb.drew)
 replace HB:=hid HB.out.drew
 have hz:w.heap.size+2≤w1.drew.heap.size:=hz
 clear hb
 refine wp_region_held_drew (S:=zbt w.heap.size H W C) Zb5 hbox (fun hHeld=>?_)
 clear hbox
 generalize w1.drew=W1 at HFR HB hz hHeld ⊢
 refine Tk.y 0 (v:=?_) rfl ?_ ?_
 rotate_left
 ·exact Z50
 refine Z5y ?_
 refine Tk.y 1 (v:=?_) rfl ?_ ?_
 rotate_left
 ·exact Z50
 refine Z5y ?_
 refine Tk.y 3 (v:=?_) rfl ?_ ?_
 rotate_left
 ·exact Z50
 refine Z5y ?_
 refine wpAnyH_ready (rs:=[2,4]) Zb5 Zb7 ?_
 refine Tk.c rfl (fun K hK=>?_) ?_
 ·go_simp
  refine hK.out _ _ ?_ (fun hHeld=>?_)
  ·exact (hHeld.below Zb3 ((Below.refl _ _).alloc (le_refl _) _))
  clear hK K
  refine Z5y ?_
  replace HFR:=hid (HFR.out.below (B':=W1.heap.size) Zb3 ((Below.refl _ _).alloc (le_refl _) (.cells #[.int .i8 x] 22)))
  replace HB:=hid (HB.out.alloc HB.out.size (.cells #[.int .i8 x] 22))
  have HX:=hid (Kit.Rd.new W1 [.int .i8 x] 22 (lt_succ_self _))
  have hzx:w.heap.size+2≤W1.heap.size:=hz
  replace hz:W1.heap.size+1≤(W1.alloc (.cells #[.int .i8 x] 22)).heap.size:=by simp
  generalize W1.alloc (.cells #[.int .i8 x] 22)=W2 at *
  refine Tk.s 4 rfl (fun K hK=>?_)
  go_simp
  go_at_call 44
  refine (zb3 H W C n HM.out _).mono ?_
  rintro e W3 ⟨rfl,hb⟩
  replace HX:=hid (HX.out.below (hb.mono Zb3))
  refine Z85 ?_;try clear HFR HB hz;intro hS1 HFR HB hz
  clear hHeld
  clear hb
  dsimp only
  refine hK.out _ _ ?_ (fun hHeld=>?_)
  ·exact hS1
  clear hK K
  refine Z5y ?_
  refine Tk.s 5 rfl (fun K hK=>?_)
  go_simp
  go_at_call 138
  refine (repeat_to _ x 1 n h1 hl W3 (B:=(W1.heap.size+1)) Zb3 HX.out).mono ?_
  exact Zw
 refine Tk.c rfl (fun K hK=>?_) ?_
 ·go_simp
  go_at_call 44
  refine (zb3 H W C n HM.out _).mono ?_
  rintro e W2 ⟨rfl,hb⟩
  refine Z85 ?_;try clear HFR HB hz;intro hS1 HFR HB hz
  clear hHeld
  clear hb
  dsimp only
  refine hK.out _ _ ?_ (fun hHeld=>?_)
  ·exact hS1
  clear hK K
  refine Z5y ?_
  refine Tk.s 2 rfl (fun K hK=>?_)
  go_simp
  refine hK.out _ _ ?_ (fun hHeld=>?_)
  ·exact (hHeld.below Zb3 ((Below.refl _ _).alloc (le_refl _) _))
  clear hK K
  refine Z5y ?_
  replace HFR:=hid (HFR.out.below (B':=W2.heap.size) Zb3 ((Below.refl _ _).alloc (le_refl _) (.cells #[.int .i8 x] 22)))
  replace HB:=hid (HB.out.alloc HB.out.size (.cells #[.int .i8 x] 22))
  have HX:=hid (Kit.Rd.new W2 [.int .i8 x] 22 (lt_succ_self _))
  have hzx:w.heap.size+2≤W2.heap.size:=hz
  replace hz:W2.heap.size+1≤(W2.alloc (.cells #[.int .i8 x] 22)).heap.size:=by simp
  generalize W2.alloc (.cells #[.int .i8 x] 22)=W3 at *
  refine Tk.s 5 rfl (fun K hK=>?_)
  go_simp
  go_at_call 138
  refine (repeat_to _ x 1 n h1 hl W3 (B:=(W2.heap.size+1)) Zb3 HX.out).mono ?_
  exact Zw
 exact AllReadyH.nil
end CTensor
end
end Go.Proofs.YtchpdhhpkljdhaaGreatDoor
