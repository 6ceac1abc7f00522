/- -/
import Derived.Deep.CutRange
import Derived.Deep.OwnRows
import Derived.Test.YtfgdfignoakkaaaGreatDoorGBT5
open Go.Lib (hid)
open Nat (le_refl lt_of_succ_lt lt_succ_self)
set_option linter.unusedVariables false
set_option linter.unusedSimpArgs false
set_option maxRecDepth 100000
set_option maxHeartbeats 16000000
namespace Go.Proofs.YtfgdfignoakkaaaGreatDoor
namespace CConv
end CConv
namespace CFix
end CFix
namespace CLeb
end CLeb
namespace CSat
end CSat
namespace CShape
end CShape
namespace CTensor
end CTensor
open Go Go.ChangeShapes Go.WideShapes Go.ChangeAt Go.RowKit Go.Deep
section
namespace CConv
open Go Go.ChangeShapes Go.WideShapes Go.ChangeAt Go.RowKit
open Plain CSat CShape CTensor
def zat (B:Nat) (x0 x1 x2 x8 x11 x12 x13 x14 x15 x16 x17 x18:Value) (K S P O Z:Int) (WA BA:Option Addr) (nW cW nB cB:Nat) (wd:World):Prop:=wd.rangeAt B 0 [x0,x1,x2,.int .i64 K,.int .i64 S,.int .i64 P,.int .i64 O,.int .i8 Z,x8,.slice WA nW cW,.slice BA nB cB,x11,x12,x13,x14,x15,x16,x17,x18]
theorem zat.new (x0 x1 x2 x8 x11 x12 x13 x14 x15 x16 x17 x18:Value) (K S P O Z:Int) (WA BA:Option Addr) (nW cW nB cB:Nat) (T:TypeId) (w:World):zat w.heap.size x0 x1 x2 x8 x11 x12 x13 x14 x15 x16 x17 x18 K S P O Z WA BA nW cW nB cB (w.alloc (.cells #[x0,x1,x2,.int .i64 K,.int .i64 S,.int .i64 P,.int .i64 O,.int .i8 Z,x8,.slice WA nW cW,.slice BA nB cB,x11,x12,x13,x14,x15,x16,x17,x18] T)):=fun j v hj=>by
 rw [Nat.zero_add,Kit.zab]
 simpa using hj
theorem zat.below {B B':Nat} {x0 x1 x2 x8 x11 x12 x13 x14 x15 x16 x17 x18:Value} {K S P O Z:Int} {WA BA:Option Addr} {nW cW nB cB:Nat} {w w':World} (h:zat B x0 x1 x2 x8 x11 x12 x13 x14 x15 x16 x17 x18 K S P O Z WA BA nW cW nB cB w) (hB:B < B') (hb:Below B' w w'):zat B x0 x1 x2 x8 x11 x12 x13 x14 x15 x16 x17 x18 K S P O Z WA BA nW cW nB cB w':=fun j v hj =>
 (hb.cell (p:=⟨B,0+j,none⟩) hB).trans (h j v hj)
theorem zat.at {B:Nat} {x0 x1 x2 x8 x11 x12 x13 x14 x15 x16 x17 x18:Value} {K S P O Z:Int} {WA BA:Option Addr} {nW cW nB cB:Nat} {w:World} (h:zat B x0 x1 x2 x8 x11 x12 x13 x14 x15 x16 x17 x18 K S P O Z WA BA nW cW nB cB w) (i:Nat) (v:Value) (hi:([x0,x1,x2,.int .i64 K,.int .i64 S,.int .i64 P,.int .i64 O,.int .i8 Z,x8,.slice WA nW cW,.slice BA nB cB,x11,x12,x13,x14,x15,x16,x17,x18]:List Value)[i]?=some v):w.cell? ⟨B,i,none⟩=some v:=by
 have:=h i v hi
 rwa [Nat.zero_add] at this
end CConv
end
section
namespace CKind
open Plain CSat CShape CTensor CConv
structure Nd where
 (kd na nb K S P O Z Y:Int)
 (WA:Option Addr)
 (nW cW:Nat)
 (BA:Option Addr)
 (nB cB:Nat)
 (m1 s1 z1 m2 s2 z2 lo hi:Int)
def Nd.val (x:Nd):Array Value:=#[.int .i64 x.kd,.int .i64 x.na,.int .i64 x.nb,.int .i64 x.K,.int .i64 x.S,.int .i64 x.P,.int .i64 x.O,.int .i8 x.Z,.int .i8 x.Y,.slice x.WA x.nW x.cW,.slice x.BA x.nB x.cB,.int .i32 x.m1,.int .i64 x.s1,.int .i8 x.z1,.int .i32 x.m2,.int .i64 x.s2,.int .i8 x.z2,.int .i8 x.lo,.int .i8 x.hi]
def zbj (k:Int):Bool:=k == 1 || k == 2 || k == 3 || k == 6 || k == 7
def sumsB (k:Int):Bool:=k == 1 || k == 2 || k == 3
def slidesB (k:Int):Bool:=k == 1 || k == 2 || k == 4 || k == 5
def Nd.moreB (x:Nd):Bool :=
 (!sumsB x.kd && (decide (0 < x.nW) || decide (0 < x.nB))) || (x.kd != 1 && x.kd != 3 && x.O != 0) || (!slidesB x.kd && (x.K != 0 || x.S != 0)) || (!slidesB x.kd && x.kd != 8 && x.P != 0) ||
 (x.kd != 6 && (x.nb != 0 || x.Y != 0 || x.m2 != 0 || x.s2 != 0)) || x.z2 != 0 || (!zbj x.kd && (x.m1 != 0 || x.s1 != 0 || x.z1 != 0 || x.lo != 0 || x.hi != 0)) || (!zbj x.kd && x.kd != 8 && x.Z != 0)
def NdAt (g:Nat) (x:Nd) (w:World):Prop:=w.rangeAt g 0 x.val.toList
theorem NdAt.at {g:Nat} {x:Nd} {w:World} (h:NdAt g x w) (i:Nat) (v:Value) (hi:x.val.toList[i]?=some v):w.cell? ⟨g,i,none⟩=some v:=by
 have:=h i v hi
 rwa [Nat.zero_add] at this
theorem NdAt.below {g B:Nat} {x:Nd} {w w':World} (h:NdAt g x w) (hB:g < B) (hb:Below B w w'):NdAt g x w':=fun j v hj=>(hb.cell (p:=⟨g,0+j,none⟩) hB).trans (h j v hj)
theorem NdAt.new (x:Nd) (T:TypeId) (w:World):NdAt w.heap.size x (w.alloc (.cells x.val T)):=fun j v hj=>by
 rw [Nat.zero_add,Kit.zab]
 simpa using hj
end CKind
end
section
namespace CFix
open Go Go.ChangeShapes Go.WideShapes Go.ChangeAt Go.RowKit
open Plain CSat
def zbf (v:Int) (s:Nat):Int :=
 if v < 0 then -(((v.natAbs+2 ^ s / 2) / 2 ^ s:Nat):Int) else (((v.natAbs+2 ^ s / 2) / 2 ^ s:Nat):Int)
theorem right_yes (s:Int) (h1:0≤s) (h2:s≤62) (w:World) :
  Calls Tryz.prog 176 #[.int .i64 s] w fun e w'=>e=.returned (.bool true)∧w=w':=by
 go_enter Tryz.func176,Tryz.ntmps176
 go_wp2
 go_ret
 exact⟨rfl,rfl⟩
theorem right_no (s:Int) (h:s < 0∨62 < s) (w:World) :
  Calls Tryz.prog 176 #[.int .i64 s] w fun e w'=>e=.returned (.bool false)∧w=w':=by
 rcases h with h | h
 ·go_enter Tryz.func176,Tryz.ntmps176
  go_wp2
  go_ret
  exact⟨rfl,rfl⟩
 ·by_cases h0:0≤s
  ·have hd:decide (s≤62)=false:=by simp;omega
   go_enter Tryz.func176,Tryz.ntmps176
   go_wp2
   go_ret
   exact⟨rfl,rfl⟩
  ·go_enter Tryz.func176,Tryz.ntmps176
   go_wp2
   go_ret
   exact⟨rfl,rfl⟩
theorem pow_bd (s:Nat) (h:s≤62):∃ p:Nat,2 ^ s=p∧1≤p∧p≤4611686018427387904∧((2:Int) ^ s=(p:Int)):=by
 refine⟨2 ^ s,rfl,Nat.one_le_two_pow,?_,by simp⟩
 exact Nat.pow_le_pow_right (by omega) h
theorem round_size (n p:Nat) (hp:1≤p) (hp2:p≤4611686018427387904) (hn:n≤9223372036854775808) :
  (n+p / 2) / p≤9223372036854775808∧(n≤9223372036854775807→(n+p / 2) / p≤9223372036854775807):=by
 have h1:(n+p / 2) / p≤n:=by
  rcases Nat.lt_or_ge 1 p with h | h
  ·rcases Nat.eq_zero_or_pos n with h0 | h0
   ·subst h0;rw [Nat.zero_add];rw [Nat.div_eq_of_lt (by omega)];omega
   ·apply Nat.div_le_of_le_mul
    have:p * 1≤p * n:=Nat.mul_le_mul_left p h0
    have h2:2 * n≤p * n:=Nat.mul_le_mul_right n h
    omega
  ·have:p=1:=by omega
   subst this;simp
 omega
theorem div_back (x:Int) (n p q:Nat) (hq:q=(n+p / 2) / p) (h:x=(n:Int)):(x+(p:Int) / 2) / (p:Int)=(q:Int):=by
 subst hq h;simp
theorem neg_q (q:Nat) (h:q≤9223372036854775808):wrap64 (-wrap64 (q:Int)) = -(q:Int):=by unfold wrap64;omega
theorem round_yes (v:Int) (s:Nat) (h:s≤62) (hv1 : -9223372036854775808≤v) (hv2:v≤9223372036854775807) (w:World) :
  Calls Tryz.prog 191 #[.int .i64 v,.int .i64 (s:Int)] w fun e w'=>e=.returned (.int .i64 (zbf v s))∧w=w':=by
 obtain⟨p,hp,hp1,hp2,hpi⟩:=pow_bd s h
 obtain⟨q,hq⟩:∃ q,q=(v.natAbs+p / 2) / p:=⟨_,rfl⟩
 have hqs:=round_size v.natAbs p hp1 hp2 (by omega)
 rw [← hq] at hqs
 obtain⟨hq1,hq2⟩:=hqs
 by_cases hn:v < 0
 ·have hr:zbf v s = -(q:Int):=by unfold zbf;rw [if_pos hn,hp,hq]
  rw [hr]
  have hx:IntKind.u64.wrap v=v+18446744073709551616:=by rw [IntKind.wrap_u64];omega
  have hy:IntKind.u64.wrap (-(v+18446744073709551616)) = -v:=by rw [IntKind.wrap_u64];omega
  have hz:(-v+(p:Int) / 2) / (p:Int)=(q:Int):=div_back _ _ _ _ hq (by omega)
  clear hr hq2 hp hq
  go_enter Tryz.func191,Tryz.ntmps191
  go_wp2_with (go_at_call 176;refine (right_yes _ (by omega) (by omega) _).mono ?_;rintro e w' ⟨rfl,rfl⟩)
  refine Kit.wp_scope_once 0 rfl ?_
  go_wp2_with (go_at_call 176;refine (right_yes _ (by omega) (by omega) _).mono ?_;rintro e w' ⟨rfl,rfl⟩)
  go_step3
  refine⟨rfl,?_⟩
  go_wp2
  rw [Exit.noGoto_ret]
  go_ret
  exact⟨zbq (neg_q q hq1),rfl⟩
 ·have hr:zbf v s=(q:Int):=by unfold zbf;rw [if_neg hn,hp,hq]
  rw [hr]
  have hz:(v+(p:Int) / 2) / (p:Int)=(q:Int):=div_back _ _ _ _ hq (by omega)
  have hq3:=hq2 (by omega)
  clear hr hq2 hp hq
  go_enter Tryz.func191,Tryz.ntmps191
  go_wp2_with (go_at_call 176;refine (right_yes _ (by omega) (by omega) _).mono ?_;rintro e w' ⟨rfl,rfl⟩)
  go_step3
  go_wp2_with (go_at_call 176;refine (right_yes _ (by omega) (by omega) _).mono ?_;rintro e w' ⟨rfl,rfl⟩)
  go_step3
  go_wp2
  rw [Exit.noGoto_ret]
  go_ret
  exact⟨rfl,rfl⟩
theorem round_abs (v:Int) (s:Nat) (h:s≤62) (hv1 : -9223372036854775808≤v) (hv2:v≤9223372036854775807):(zbf v s).natAbs≤v.natAbs:=by
 obtain⟨p,hp,hp1,hp2,hpi⟩:=pow_bd s h
 have h1:(v.natAbs+p / 2) / p≤v.natAbs:=by
  rcases Nat.lt_or_ge 1 p with h | h
  ·rcases Nat.eq_zero_or_pos v.natAbs with h0 | h0
   ·rw [h0,Nat.zero_add,Nat.div_eq_of_lt (by omega)];omega
   ·apply Nat.div_le_of_le_mul
    have:p * 1≤p * v.natAbs:=Nat.mul_le_mul_left p h0
    have h2:2 * v.natAbs≤p * v.natAbs:=Nat.mul_le_mul_right _ h
    omega
  ·have:p=1:=by omega
   subst this;simp
 unfold zbf
 rw [hp]
 generalize (v.natAbs+p / 2) / p=t at *
 split <;> omega
theorem scale_yes (a m:Int) (s:Nat) (h:s≤62) (ha1 : -2147483648≤a) (ha2:a≤2147483647) (hm1 : -2147483648≤m) (hm2:m≤2147483647) (w:World) :
  Calls Tryz.prog 189 #[.int .i32 a,.int .i32 m,.int .i64 (s:Int)] w fun e w'=>e=.returned (.int .i64 (zbf (a * m) s))∧w=w':=by
 obtain⟨h1,h2⟩:=mul_bd a m ha1 ha2 hm1 hm2
 go_enter Tryz.func189,Tryz.ntmps189
 go_wp2_with (go_at_call 191;refine (round_yes _ s h (by omega) (by omega) _).mono ?_;rintro e w' ⟨rfl,rfl⟩)
 go_ret
 exact⟨rfl,rfl⟩
theorem scale_to (a m:Int) (s:Nat) (t:Int) (h:s≤62) (ha1 : -2147483648≤a) (ha2:a≤2147483647) (hm1 : -2147483648≤m) (hm2:m≤2147483647) (ht:zbf (a * m) s=t) (w:World) :
  Calls Tryz.prog 189 #[.int .i32 a,.int .i32 m,.int .i64 (s:Int)] w fun e w'=>e=.returned (.int .i64 t)∧w=w':=ht ▸ scale_yes a m s h ha1 ha2 hm1 hm2 w
def zax (m s:Int):Bool:=decide (0 < m∧0≤s∧s≤62)
theorem isRight_yes (m s z:Int) (h:zax m s=true) (w:World) :
  Calls Tryz.prog 162 #[.agg #[.int .i32 m,.int .i64 s,.int .i8 z]] w fun e w'=>e=.returned (.bool true)∧Below w.heap.size w w':=by
 obtain⟨h1,h2,h3⟩:0 < m∧0≤s∧s≤62:=by simpa [zax] using h
 clear h
 go_enter Tryz.func162,Tryz.ntmps162
 go_wp2_with (go_at_call 176;refine (right_yes _ (by omega) (by omega) _).mono ?_;rintro e w' ⟨rfl,rfl⟩)
 go_ret
 exact⟨rfl,(Below.refl _ _).alloc (le_refl _) _⟩
theorem isRight_no (m s z:Int) (h:zax m s=false) (w:World) :
  Calls Tryz.prog 162 #[.agg #[.int .i32 m,.int .i64 s,.int .i8 z]] w fun e w'=>e=.returned (.bool false)∧Below w.heap.size w w':=by
 have h0:¬ (0 < m∧0≤s∧s≤62):=by simpa [zax] using h
 clear h
 by_cases h1:0 < m
 ·have h2:s < 0∨62 < s:=by omega
  clear h0
  go_enter Tryz.func162,Tryz.ntmps162
  go_wp2_with (go_at_call 176;refine (right_no _ h2 _).mono ?_;rintro e w' ⟨rfl,rfl⟩)
  go_ret
  exact⟨rfl,(Below.refl _ _).alloc (le_refl _) _⟩
 ·have hd:decide (0 < m)=false:=by simpa using h1
  clear h0
  go_enter Tryz.func162,Tryz.ntmps162
  go_wp2_with fail
  go_ret
  exact⟨rfl,(Below.refl _ _).alloc (le_refl _) _⟩
def heldZ (a m s z lo hi:Int):Int:=if zax m s then zb1 (zbf (a * m) s.toNat+z) lo hi else 0
theorem held (a m s z lo hi:Int) (ha1 : -2147483648≤a) (ha2:a≤2147483647) (hm1 : -2147483648≤m) (hm2:m≤2147483647) (hz1 : -128≤z) (hz2:z≤127)
  (hl1 : -128≤lo) (hl2:lo≤127) (hh1 : -128≤hi) (hh2:hi≤127) (w:World) :
  Calls Tryz.prog 183 #[.int .i32 a,.agg #[.int .i32 m,.int .i64 s,.int .i8 z],.int .i8 lo,.int .i8 hi] w fun e w'=>e=.returned (.int .i8 (heldZ a m s z lo hi))∧Below w.heap.size w w':=by
 obtain⟨h1,h2⟩:=mul_bd a m ha1 ha2 hm1 hm2
 cases hr:zax m s
 ·have hv:heldZ a m s z lo hi=0:=by unfold heldZ;rw [hr];rfl
  rw [hv]
  have HR:=hid hr
  clear hr hv
  go_enter Tryz.func183,Tryz.ntmps183
  go_wp2_with (go_at_call 162;refine (isRight_no _ _ _ HR.out _).mono ?_;rintro e w1 ⟨rfl,hb⟩;obtain⟨hc,hf⟩:=Kit.bcell hb)
  go_ret
  exact⟨rfl,((Below.refl _ _).alloc (le_refl _) _).trans (hb.mono (by simp))⟩
 ·obtain⟨h3,h4,h5⟩:0 < m∧0≤s∧s≤62:=by simpa [zax] using hr
  obtain⟨n,rfl⟩:=Int.eq_ofNat_of_zero_le h4
  have hv:heldZ a m n z lo hi=zb1 (zbf (a * m) n+z) lo hi:=by unfold heldZ;rw [hr];rfl
  rw [hv]
  have hn:n≤62:=by omega
  have hra:=round_abs (a * m) n hn (by omega) (by omega)
  obtain⟨t,ht⟩:∃ t,zbf (a * m) n=t:=⟨_,rfl⟩
  rw [ht] at hra
  rw [ht]
  have ht1 : -4611686018427387904≤t:=by omega
  have ht2:t≤4611686018427387904:=by omega
  have HR:=hid hr
  have HT:=hid ht
  clear hr hv ht hra
  go_enter Tryz.func183,Tryz.ntmps183
  go_wp2_with (go_at_call 162;refine (isRight_yes _ _ _ HR.out _).mono ?_;rintro e w1 ⟨rfl,hb⟩;obtain⟨hc,hf⟩:=Kit.bcell hb)
  go_quiet ((first
   | (go_at_call 189;exact Kit.quiet_l (scale_to _ _ _ t hn ha1 ha2 hm1 hm2 HT.out _))
   | (go_at_call 190;exact Kit.quiet_l (clamp _ _ _ (by omega) (by omega) (by omega) (by omega) _))))
  go_wp2
  go_ret
  exact⟨rfl,Kit.below_drewN (((Below.refl _ _).alloc (le_refl _) _).trans (hb.mono (by simp))) _⟩
end CFix
end
section
namespace CKind
open Plain CSat CFix CShape CTensor CConv
def kname (k:Int):ByteArray :=
 if k=1 then ⟨#[99,111,110,118]⟩ else if k=2 then ⟨#[100,101,112,116,104]⟩ else if k=3 then ⟨#[100,101,110,115,101]⟩ else if k=4 then ⟨#[109,97,120,112,111,111,108]⟩ else if k=5 then ⟨#[97,118,103,112,111,111,108]⟩ else if k=6 then ⟨#[106,111,105,110]⟩ else if k=7 then ⟨#[97,99,116]⟩ else if k=8 then ⟨#[112,97,100]⟩ else if k=9 then ⟨#[102,108,97,116]⟩ else ⟨#[]⟩
theorem kname_no {k:Int} (h:k < 1∨9 < k):kname k=⟨#[]⟩:=by
 unfold kname
 simp only [show ¬ k=1 by omega,show ¬ k=2 by omega,show ¬ k=3 by omega,show ¬ k=4 by omega,show ¬ k=5 by omega,show ¬ k=6 by omega,show ¬ k=7 by omega,show ¬ k=8 by omega,show ¬ k=9 by omega,if_false]
end CKind
end
section
namespace CConv
open Go Go.ChangeShapes Go.WideShapes Go.ChangeAt Go.RowKit
open Plain CSat CShape CTensor
def I32v (zs:List Int):List Value:=zs.map (.int .i32)
def ShapeAt (B:Nat) (H W C:Int) (wd:World):Prop :=
 wd.cell? ⟨B,0,none⟩=some (.int .i64 H)∧wd.cell? ⟨B,1,none⟩=some (.int .i64 W)∧wd.cell? ⟨B,2,none⟩=some (.int .i64 C)
theorem ShapeAt.below {B B':Nat} {H W C:Int} {w w':World} (h:ShapeAt B H W C w) (hB:B < B') (hb:Below B' w w'):ShapeAt B H W C w' :=
 ⟨(hb.cell (p:=⟨B,0,none⟩) hB).trans h.1,(hb.cell (p:=⟨B,1,none⟩) hB).trans h.2.1,(hb.cell (p:=⟨B,2,none⟩) hB).trans h.2.2⟩
theorem zaw (H W C:Int) (T:TypeId) (w:World):ShapeAt w.heap.size H W C (w.alloc (.cells #[.int .i64 H,.int .i64 W,.int .i64 C] T)):=⟨Kit.zab _ _ _ _,Kit.zab _ _ _ _,Kit.zab _ _ _ _⟩
end CConv
end
section
namespace COctet
open Go Go.ChangeShapes Go.WideShapes Go.ChangeAt Go.RowKit
open LebNum CLeb
theorem listed_own {w:World} {zs:List Int} {n k:Nat} {e:Ending} {w':World} (hn:zs.length=n) (hk:n=k) (h:Owned w 5 1 k (zao zs) e w'):Listed w n zs e w':=by
 subst hn;subst hk;exact listed rfl h
theorem small_to (A:Option Addr) (zs:List Int) (n c:Nat) (hn:zs.length=n) (hl:n≤20000) (hz:I8r zs) {B:Nat} (w:World) (hB:B≤w.heap.size) (hr:Kit.Rd w B A (zs.map (.int .i8))) :
  Calls Tryz.prog 220 #[.slice A n c] w (Listed w n (za6 zs)):=by
 have HR:=hid hr
 have HN:=hid hn
 clear hr hn
 go_enter Tryz.func220,Tryz.ntmps220
 go_wp2_with (go_at_call 226;(refine (put8 A zs n c HN.out hl hz _ hB HR.out).mono ?_);rintro e w1 ⟨v1,rfl,ho1,hb1⟩;obtain⟨A1,c1,rfl, -, -, -⟩:=Kit.za2 ho1;(have HO:=hid ho1);(have HB:=hid hb1);clear ho1 hb1)
 go_ret
 exact listed_own (by simp [za6,HN.out]) rfl ⟨_,rfl,HO.out,HB.out⟩
theorem wide_to (A:Option Addr) (zs:List Int) (n c:Nat) (hn:zs.length=n) (hl:n≤20000) (hz:I32s zs) (D:Nat) (hD:(encZ zs).length=D) {B:Nat} (w:World) (hB:B≤w.heap.size) (hr:Kit.Rd w B A (zs.map (.int .i32))) :
  Calls Tryz.prog 215 #[.slice A n c] w (Listed w D (encZ zs)):=by
 have HR:=hid hr
 have HN:=hid hn
 have HD:=hid hD
 clear hr hn hD
 go_enter Tryz.func215,Tryz.ntmps215
 go_wp2_with (go_at_call 221;(refine (putW A zs n c HN.out hl hz _ hB HR.out).mono ?_);rintro e w1 ⟨v1,rfl,ho1,hb1⟩;(rw [HD.out] at ho1);obtain⟨A1,c1,rfl, -, -, -⟩:=Kit.za2 ho1;(have HO:=hid ho1);(have HB:=hid hb1);clear ho1 hb1)
 go_ret
 exact listed_own HD.out rfl ⟨_,rfl,HO.out,HB.out⟩
/-! ### the reader -/
end COctet
end
end Go.Proofs.YtfgdfignoakkaaaGreatDoor
