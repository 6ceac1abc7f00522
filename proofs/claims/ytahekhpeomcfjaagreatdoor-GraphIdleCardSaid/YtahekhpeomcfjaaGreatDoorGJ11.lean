/- -/
import Derived.Test.YtahekhpeomcfjaaGreatDoorGJ10
open Go.Lib (hid)
open Nat (le_refl lt_of_succ_lt lt_succ_self)
set_option linter.unusedVariables false
set_option linter.unusedSimpArgs false
set_option maxRecDepth 100000
set_option maxHeartbeats 16000000
namespace Go.Proofs.YtahekhpeomcfjaaGreatDoor
namespace CConv
end CConv
namespace CFix
end CFix
namespace CSat
end CSat
namespace CShape
end CShape
namespace CTensor
end CTensor
open Go Go.ChangeShapes Go.WideShapes Go.ChangeAt Go.RowKit Go.Deep
section
namespace CKind
open Plain CSat CShape CTensor CConv
structure Nd where
 (kd na nb K S P O Z Y:Int)
 (WA:Option Addr)
 (nW cW:Nat)
 (BA:Option Addr)
 (nB cB:Nat)
 (m1 s1 z1 m2 s2 z2 lo hi:Int)
def Nd.val (x:Nd):Array Value:=#[.int .i64 x.kd,.int .i64 x.na,.int .i64 x.nb,.int .i64 x.K,.int .i64 x.S,.int .i64 x.P,.int .i64 x.O,.int .i8 x.Z,.int .i8 x.Y,.slice x.WA x.nW x.cW,.slice x.BA x.nB x.cB,.int .i32 x.m1,.int .i64 x.s1,.int .i8 x.z1,.int .i32 x.m2,.int .i64 x.s2,.int .i8 x.z2,.int .i8 x.lo,.int .i8 x.hi]
def zbv (k:Int):Bool:=k == 1 || k == 2 || k == 3 || k == 6 || k == 7
def sumsB (k:Int):Bool:=k == 1 || k == 2 || k == 3
def slidesB (k:Int):Bool:=k == 1 || k == 2 || k == 4 || k == 5
def Nd.moreB (x:Nd):Bool :=
 (!sumsB x.kd && (decide (0 < x.nW) || decide (0 < x.nB))) || (x.kd != 1 && x.kd != 3 && x.O != 0) || (!slidesB x.kd && (x.K != 0 || x.S != 0)) || (!slidesB x.kd && x.kd != 8 && x.P != 0) ||
 (x.kd != 6 && (x.nb != 0 || x.Y != 0 || x.m2 != 0 || x.s2 != 0)) || x.z2 != 0 || (!zbv x.kd && (x.m1 != 0 || x.s1 != 0 || x.z1 != 0 || x.lo != 0 || x.hi != 0)) || (!zbv x.kd && x.kd != 8 && x.Z != 0)
def NdAt (g:Nat) (x:Nd) (w:World):Prop:=w.rangeAt g 0 x.val.toList
theorem NdAt.at {g:Nat} {x:Nd} {w:World} (h:NdAt g x w) (i:Nat) (v:Value) (hi:x.val.toList[i]?=some v):w.cell? ⟨g,i,none⟩=some v:=by
 have:=h i v hi
 rwa [Nat.zero_add] at this
theorem NdAt.below {g B:Nat} {x:Nd} {w w':World} (h:NdAt g x w) (hB:g < B) (hb:Below B w w'):NdAt g x w':=fun j v hj=>(hb.cell (p:=⟨g,0+j,none⟩) hB).trans (h j v hj)
theorem NdAt.new (x:Nd) (T:TypeId) (w:World):NdAt w.heap.size x (w.alloc (.cells x.val T)):=fun j v hj=>by
 rw [Nat.zero_add,Kit.zaf]
 simpa using hj
end CKind
end
section
namespace CFix
open Go Go.ChangeShapes Go.WideShapes Go.ChangeAt Go.RowKit
open Plain CSat
def zby (v:Int) (s:Nat):Int :=
 if v < 0 then -(((v.natAbs+2 ^ s / 2) / 2 ^ s:Nat):Int) else (((v.natAbs+2 ^ s / 2) / 2 ^ s:Nat):Int)
theorem right_yes (s:Int) (h1:0≤s) (h2:s≤62) (w:World) :
  Calls Tryz.prog 113 #[.int .i64 s] w fun e w'=>e=.returned (.bool true)∧w=w':=by
 go_enter Tryz.func113,Tryz.ntmps113
 go_wp2
 go_ret
 exact⟨rfl,rfl⟩
theorem right_no (s:Int) (h:s < 0∨62 < s) (w:World) :
  Calls Tryz.prog 113 #[.int .i64 s] w fun e w'=>e=.returned (.bool false)∧w=w':=by
 rcases h with h | h
 ·go_enter Tryz.func113,Tryz.ntmps113
  go_wp2
  go_ret
  exact⟨rfl,rfl⟩
 ·by_cases h0:0≤s
  ·have hd:decide (s≤62)=false:=by simp;omega
   go_enter Tryz.func113,Tryz.ntmps113
   go_wp2
   go_ret
   exact⟨rfl,rfl⟩
  ·go_enter Tryz.func113,Tryz.ntmps113
   go_wp2
   go_ret
   exact⟨rfl,rfl⟩
theorem pow_bd (s:Nat) (h:s≤62):∃ p:Nat,2 ^ s=p∧1≤p∧p≤4611686018427387904∧((2:Int) ^ s=(p:Int)):=by
 refine⟨2 ^ s,rfl,Nat.one_le_two_pow,?_,by simp⟩
 exact Nat.pow_le_pow_right (by omega) h
theorem round_size (n p:Nat) (hp:1≤p) (hp2:p≤4611686018427387904) (hn:n≤9223372036854775808) :
  (n+p / 2) / p≤9223372036854775808∧(n≤9223372036854775807→(n+p / 2) / p≤9223372036854775807):=by
 have h1:(n+p / 2) / p≤n:=by
  rcases Nat.lt_or_ge 1 p with h | h
  ·rcases Nat.eq_zero_or_pos n with h0 | h0
   ·subst h0;rw [Nat.zero_add];rw [Nat.div_eq_of_lt (by omega)];omega
   ·apply Nat.div_le_of_le_mul
    have:p * 1≤p * n:=Nat.mul_le_mul_left p h0
    have h2:2 * n≤p * n:=Nat.mul_le_mul_right n h
    omega
  ·have:p=1:=by omega
   subst this;simp
 omega
theorem div_back (x:Int) (n p q:Nat) (hq:q=(n+p / 2) / p) (h:x=(n:Int)):(x+(p:Int) / 2) / (p:Int)=(q:Int):=by
 subst hq h;simp
theorem neg_q (q:Nat) (h:q≤9223372036854775808):wrap64 (-wrap64 (q:Int)) = -(q:Int):=by unfold wrap64;omega
theorem round_yes (v:Int) (s:Nat) (h:s≤62) (hv1 : -9223372036854775808≤v) (hv2:v≤9223372036854775807) (w:World) :
  Calls Tryz.prog 147 #[.int .i64 v,.int .i64 (s:Int)] w fun e w'=>e=.returned (.int .i64 (zby v s))∧w=w':=by
 obtain⟨p,hp,hp1,hp2,hpi⟩:=pow_bd s h
 obtain⟨q,hq⟩:∃ q,q=(v.natAbs+p / 2) / p:=⟨_,rfl⟩
 have hqs:=round_size v.natAbs p hp1 hp2 (by omega)
 rw [← hq] at hqs
 obtain⟨hq1,hq2⟩:=hqs
 by_cases hn:v < 0
 ·have hr:zby v s = -(q:Int):=by unfold zby;rw [if_pos hn,hp,hq]
  rw [hr]
  have hx:IntKind.u64.wrap v=v+18446744073709551616:=by rw [IntKind.wrap_u64];omega
  have hy:IntKind.u64.wrap (-(v+18446744073709551616)) = -v:=by rw [IntKind.wrap_u64];omega
  have hz:(-v+(p:Int) / 2) / (p:Int)=(q:Int):=div_back _ _ _ _ hq (by omega)
  clear hr hq2 hp hq
  go_enter Tryz.func147,Tryz.ntmps147
  go_wp2_with (go_at_call 113;refine (right_yes _ (by omega) (by omega) _).mono ?_;rintro e w' ⟨rfl,rfl⟩)
  refine Kit.zb2 0 rfl ?_
  go_wp2_with (go_at_call 113;refine (right_yes _ (by omega) (by omega) _).mono ?_;rintro e w' ⟨rfl,rfl⟩)
  go_step3
  refine⟨rfl,?_⟩
  go_wp2
  rw [Exit.noGoto_ret]
  go_ret
  exact⟨zcw (neg_q q hq1),rfl⟩
 ·have hr:zby v s=(q:Int):=by unfold zby;rw [if_neg hn,hp,hq]
  rw [hr]
  have hz:(v+(p:Int) / 2) / (p:Int)=(q:Int):=div_back _ _ _ _ hq (by omega)
  have hq3:=hq2 (by omega)
  clear hr hq2 hp hq
  go_enter Tryz.func147,Tryz.ntmps147
  go_wp2_with (go_at_call 113;refine (right_yes _ (by omega) (by omega) _).mono ?_;rintro e w' ⟨rfl,rfl⟩)
  go_step3
  go_wp2_with (go_at_call 113;refine (right_yes _ (by omega) (by omega) _).mono ?_;rintro e w' ⟨rfl,rfl⟩)
  go_step3
  go_wp2
  rw [Exit.noGoto_ret]
  go_ret
  exact⟨rfl,rfl⟩
theorem round_abs (v:Int) (s:Nat) (h:s≤62) (hv1 : -9223372036854775808≤v) (hv2:v≤9223372036854775807):(zby v s).natAbs≤v.natAbs:=by
 obtain⟨p,hp,hp1,hp2,hpi⟩:=pow_bd s h
 have h1:(v.natAbs+p / 2) / p≤v.natAbs:=by
  rcases Nat.lt_or_ge 1 p with h | h
  ·rcases Nat.eq_zero_or_pos v.natAbs with h0 | h0
   ·rw [h0,Nat.zero_add,Nat.div_eq_of_lt (by omega)];omega
   ·apply Nat.div_le_of_le_mul
    have:p * 1≤p * v.natAbs:=Nat.mul_le_mul_left p h0
    have h2:2 * v.natAbs≤p * v.natAbs:=Nat.mul_le_mul_right _ h
    omega
  ·have:p=1:=by omega
   subst this;simp
 unfold zby
 rw [hp]
 generalize (v.natAbs+p / 2) / p=t at *
 split <;> omega
theorem scale_yes (a m:Int) (s:Nat) (h:s≤62) (ha1 : -2147483648≤a) (ha2:a≤2147483647) (hm1 : -2147483648≤m) (hm2:m≤2147483647) (w:World) :
  Calls Tryz.prog 134 #[.int .i32 a,.int .i32 m,.int .i64 (s:Int)] w fun e w'=>e=.returned (.int .i64 (zby (a * m) s))∧w=w':=by
 obtain⟨h1,h2⟩:=mul_bd a m ha1 ha2 hm1 hm2
 go_enter Tryz.func134,Tryz.ntmps134
 go_wp2_with (go_at_call 147;refine (round_yes _ s h (by omega) (by omega) _).mono ?_;rintro e w' ⟨rfl,rfl⟩)
 go_ret
 exact⟨rfl,rfl⟩
theorem scale_to (a m:Int) (s:Nat) (t:Int) (h:s≤62) (ha1 : -2147483648≤a) (ha2:a≤2147483647) (hm1 : -2147483648≤m) (hm2:m≤2147483647) (ht:zby (a * m) s=t) (w:World) :
  Calls Tryz.prog 134 #[.int .i32 a,.int .i32 m,.int .i64 (s:Int)] w fun e w'=>e=.returned (.int .i64 t)∧w=w':=ht ▸ scale_yes a m s h ha1 ha2 hm1 hm2 w
def za0 (m s:Int):Bool:=decide (0 < m∧0≤s∧s≤62)
theorem zce (m s z:Int) (h:za0 m s=true) (w:World) :
  Calls Tryz.prog 74 #[.agg #[.int .i32 m,.int .i64 s,.int .i8 z]] w fun e w'=>e=.returned (.bool true)∧Below w.heap.size w w':=by
 obtain⟨h1,h2,h3⟩:0 < m∧0≤s∧s≤62:=by simpa [za0] using h
 clear h
 go_enter Tryz.func74,Tryz.ntmps74
 go_wp2_with (go_at_call 113;refine (right_yes _ (by omega) (by omega) _).mono ?_;rintro e w' ⟨rfl,rfl⟩)
 go_ret
 exact⟨rfl,(Below.refl _ _).alloc (le_refl _) _⟩
theorem isRight_no (m s z:Int) (h:za0 m s=false) (w:World) :
  Calls Tryz.prog 74 #[.agg #[.int .i32 m,.int .i64 s,.int .i8 z]] w fun e w'=>e=.returned (.bool false)∧Below w.heap.size w w':=by
 have h0:¬ (0 < m∧0≤s∧s≤62):=by simpa [za0] using h
 clear h
 by_cases h1:0 < m
 ·have h2:s < 0∨62 < s:=by omega
  clear h0
  go_enter Tryz.func74,Tryz.ntmps74
  go_wp2_with (go_at_call 113;refine (right_no _ h2 _).mono ?_;rintro e w' ⟨rfl,rfl⟩)
  go_ret
  exact⟨rfl,(Below.refl _ _).alloc (le_refl _) _⟩
 ·have hd:decide (0 < m)=false:=by simpa using h1
  clear h0
  go_enter Tryz.func74,Tryz.ntmps74
  go_wp2_with fail
  go_ret
  exact⟨rfl,(Below.refl _ _).alloc (le_refl _) _⟩
def heldZ (a m s z lo hi:Int):Int:=if za0 m s then zcd (zby (a * m) s.toNat+z) lo hi else 0
theorem held (a m s z lo hi:Int) (ha1 : -2147483648≤a) (ha2:a≤2147483647) (hm1 : -2147483648≤m) (hm2:m≤2147483647) (hz1 : -128≤z) (hz2:z≤127)
  (hl1 : -128≤lo) (hl2:lo≤127) (hh1 : -128≤hi) (hh2:hi≤127) (w:World) :
  Calls Tryz.prog 119 #[.int .i32 a,.agg #[.int .i32 m,.int .i64 s,.int .i8 z],.int .i8 lo,.int .i8 hi] w fun e w'=>e=.returned (.int .i8 (heldZ a m s z lo hi))∧Below w.heap.size w w':=by
 obtain⟨h1,h2⟩:=mul_bd a m ha1 ha2 hm1 hm2
 cases hr:za0 m s
 ·have hv:heldZ a m s z lo hi=0:=by unfold heldZ;rw [hr];rfl
  rw [hv]
  have HR:=hid hr
  clear hr hv
  go_enter Tryz.func119,Tryz.ntmps119
  go_wp2_with (go_at_call 74;refine (isRight_no _ _ _ HR.out _).mono ?_;rintro e w1 ⟨rfl,hb⟩;obtain⟨hc,hf⟩:=Kit.bcell hb)
  go_ret
  exact⟨rfl,((Below.refl _ _).alloc (le_refl _) _).trans (hb.mono (by simp))⟩
 ·obtain⟨h3,h4,h5⟩:0 < m∧0≤s∧s≤62:=by simpa [za0] using hr
  obtain⟨n,rfl⟩:=Int.eq_ofNat_of_zero_le h4
  have hv:heldZ a m n z lo hi=zcd (zby (a * m) n+z) lo hi:=by unfold heldZ;rw [hr];rfl
  rw [hv]
  have hn:n≤62:=by omega
  have hra:=round_abs (a * m) n hn (by omega) (by omega)
  obtain⟨t,ht⟩:∃ t,zby (a * m) n=t:=⟨_,rfl⟩
  rw [ht] at hra
  rw [ht]
  have ht1 : -4611686018427387904≤t:=by omega
  have ht2:t≤4611686018427387904:=by omega
  have HR:=hid hr
  have HT:=hid ht
  clear hr hv ht hra
  go_enter Tryz.func119,Tryz.ntmps119
  go_wp2_with (go_at_call 74;refine (zce _ _ _ HR.out _).mono ?_;rintro e w1 ⟨rfl,hb⟩;obtain⟨hc,hf⟩:=Kit.bcell hb)
  go_quiet ((first
   | (go_at_call 134;exact Kit.quiet_l (scale_to _ _ _ t hn ha1 ha2 hm1 hm2 HT.out _))
   | (go_at_call 135;exact Kit.quiet_l (clamp _ _ _ (by omega) (by omega) (by omega) (by omega) _))))
  go_wp2
  go_ret
  exact⟨rfl,Kit.below_drewN (((Below.refl _ _).alloc (le_refl _) _).trans (hb.mono (by simp))) _⟩
end CFix
end
section
namespace CKind
open Plain CSat CFix CShape CTensor CConv
def kname (k:Int):ByteArray :=
 if k=1 then ⟨#[99,111,110,118]⟩ else if k=2 then ⟨#[100,101,112,116,104]⟩ else if k=3 then ⟨#[100,101,110,115,101]⟩ else if k=4 then ⟨#[109,97,120,112,111,111,108]⟩ else if k=5 then ⟨#[97,118,103,112,111,111,108]⟩ else if k=6 then ⟨#[106,111,105,110]⟩ else if k=7 then ⟨#[97,99,116]⟩ else if k=8 then ⟨#[112,97,100]⟩ else if k=9 then ⟨#[102,108,97,116]⟩ else ⟨#[]⟩
theorem kname_no {k:Int} (h:k < 1∨9 < k):kname k=⟨#[]⟩:=by
 unfold kname
 simp only [show ¬ k=1 by omega,show ¬ k=2 by omega,show ¬ k=3 by omega,show ¬ k=4 by omega,show ¬ k=5 by omega,show ¬ k=6 by omega,show ¬ k=7 by omega,show ¬ k=8 by omega,show ¬ k=9 by omega,if_false]
end CKind
end
section
namespace CConv
open Go Go.ChangeShapes Go.WideShapes Go.ChangeAt Go.RowKit
open Plain CSat CShape CTensor
theorem info_i32:(Tryz.prog.info? 21).map (fun i=>(i.zero,i.size,i.bytes))=some (some (.int .i32 0),1,4):=by kernel_rfl
theorem zbz {P:Program} {t:TypeId} {z:Option Value} {s b:Nat} (h:(P.info? t).map (fun i=>(i.zero,i.size,i.bytes))=some (z,s,b)):∃ i,P.info? t=some i∧i.zero=z∧i.size=s∧i.bytes=b:=by
 cases hi:P.info? t with
 | none=>rw [hi] at h;cases h
 | some i=>rw [hi] at h;simp at h;exact⟨i,rfl,h.1,h.2.1,h.2.2⟩
def I32v (zs:List Int):List Value:=zs.map (.int .i32)
def rowL (F:Nat→Int) (k:Nat):List Int:=(List.range k).map F
theorem zbn (F:Nat→Int) (k:Nat):(rowL F k).length=k:=by simp [rowL]
theorem rowL_succ (F:Nat→Int) (k:Nat) (x:Int) (h:F k=x):I32v (rowL F k) ++ [.int .i32 x]=I32v (rowL F (k+1)):=by
 simp [I32v,rowL,List.range_succ,h]
def gridF (b d:Nat) (G:Nat→Nat→Nat→Int) (i:Nat):Int:=G (i / d / b) (i / d % b) (i % d)
theorem grid_at (b d:Nat) (G:Nat→Nat→Nat→Int) {i j k:Nat} (hj:j < b) (hk:k < d):gridF b d G ((i * b+j) * d+k)=G i j k:=by
 unfold gridF
 have h1:((i * b+j) * d+k) / d=i * b+j:=by rw [Nat.mul_comm,Nat.mul_add_div (by omega),Nat.div_eq_of_lt hk];rfl
 have h2:((i * b+j) * d+k) % d=k:=by rw [Nat.mul_comm,Nat.mul_add_mod,Nat.mod_eq_of_lt hk]
 have h3:(i * b+j) / b=i:=by rw [Nat.mul_comm,Nat.mul_add_div (by omega),Nat.div_eq_of_lt hj];rfl
 have h4:(i * b+j) % b=j:=by rw [Nat.mul_comm,Nat.mul_add_mod,Nat.mod_eq_of_lt hj]
 rw [h1,h2,h3,h4]
theorem at_lt {a b d i j k:Nat} (hi:i < a) (hj:j < b) (hk:k < d):(i * b+j) * d+k < a * b * d:=by
 have e1:(i+1) * b≤a * b:=Nat.mul_le_mul_right _ hi
 have e2:(i * b+j+1) * d≤a * b * d:=Nat.mul_le_mul_right _ (by rw [Nat.add_mul,Nat.one_mul] at e1;omega)
 rw [Nat.add_mul _ 1 d,Nat.one_mul] at e2
 omega
def sumF (zs ws bs:List Int) (H W C S P:Int) (d kk:Nat) (Z:Int) (h v o:Nat):Int :=
 IntKind.i32.wrap (bs.getD o 0+winF zs ws H W C ((h:Int) * S - P) ((v:Int) * S - P) d kk o Z)
def MadeA (w:World) (H W C:Int) (n:Nat) (zs:List Int) (x:Value) (e:Ending) (w':World):Prop :=
 ∃ v,e=.returned (.tuple #[.agg #[.int .i64 H,.int .i64 W,.int .i64 C,v],x])∧w'.ownsRow w.heap.size 21 1 v n (I32v zs)∧Below w.heap.size w w'
def zau (B:Nat) (H W C:Int) (wd:World):Prop :=
 wd.cell? ⟨B,0,none⟩=some (.int .i64 H)∧wd.cell? ⟨B,1,none⟩=some (.int .i64 W)∧wd.cell? ⟨B,2,none⟩=some (.int .i64 C)
theorem zau.below {B B':Nat} {H W C:Int} {w w':World} (h:zau B H W C w) (hB:B < B') (hb:Below B' w w'):zau B H W C w' :=
 ⟨(hb.cell (p:=⟨B,0,none⟩) hB).trans h.1,(hb.cell (p:=⟨B,1,none⟩) hB).trans h.2.1,(hb.cell (p:=⟨B,2,none⟩) hB).trans h.2.2⟩
theorem za5 (T:TypeId) (w:World):zbm w.heap.size (w.alloc (.cells #[.int .i64 0,.int .i64 0,.int .i64 0,.slice none 0 0] T)):=zbm.new T w _ rfl
theorem zba (H W C:Int) (T:TypeId) (w:World):zau w.heap.size H W C (w.alloc (.cells #[.int .i64 H,.int .i64 W,.int .i64 C] T)):=⟨Kit.zaf _ _ _ _,Kit.zaf _ _ _ _,Kit.zaf _ _ _ _⟩
theorem convE_ok {H W C K S P O:Int} {nW nB:Nat} (h:convE H W C K S P O nW nB=0):zaz H W C K S P O=0∧(nW:Int)=O * K * K * C∧nW≤16384∧(nB:Int)=O:=by
 unfold convE at h
 by_cases h1:zaz H W C K S P O≠0
 ·rw [if_pos h1] at h;exact absurd h h1
 ·rw [if_neg h1] at h
  by_cases h2:(nW:Int)=O * K * K * C∧nW≤16384∧(nB:Int)=O
  ·exact⟨by omega,h2⟩
  ·rw [if_neg h2] at h;omega
def OfAt (w:World) (H W C:Int) (A:Option Addr) (n c:Nat) (x0 x1 x2 x8 x11 x12 x13 x14 x15 x16 x17 x18:Value) (K S P O Z:Int) (WA BA:Option Addr) (nW cW nB cB:Nat) (X Y U:Int) (g6:Nat) (wr:World):Prop :=
 BoxAt w.heap.size H W C A n c wr∧zai (w.heap.size+1) x0 x1 x2 x8 x11 x12 x13 x14 x15 x16 x17 x18 K S P O Z WA BA nW cW nB cB wr∧zbm (w.heap.size+2) wr∧zau g6 X Y U wr∧Below w.heap.size w wr∧g6+1≤wr.heap.size
theorem OfAt.below {w:World} {H W C:Int} {A:Option Addr} {n c:Nat} {x0 x1 x2 x8 x11 x12 x13 x14 x15 x16 x17 x18:Value} {K S P O Z:Int} {WA BA:Option Addr} {nW cW nB cB:Nat} {X Y U:Int} {g6:Nat} {w1 w2:World} {B':Nat} (h:OfAt w H W C A n c x0 x1 x2 x8 x11 x12 x13 x14 x15 x16 x17 x18 K S P O Z WA BA nW cW nB cB X Y U g6 w1) (h6:w.heap.size+3≤g6) (hB:g6 < B') (hb:Below B' w1 w2):OfAt w H W C A n c x0 x1 x2 x8 x11 x12 x13 x14 x15 x16 x17 x18 K S P O Z WA BA nW cW nB cB X Y U g6 w2:=by
 obtain⟨a1,a2,a3,a4,a5,a6⟩:=h
 exact⟨a1.below (by omega) hb,a2.below (by omega) hb,a3.below (by omega) hb,a4.below hB hb,a5.trans (hb.mono (by omega)),Nat.le_trans a6 hb.size⟩
theorem za3 {w:World} {base g:Nat} {e:TypeId} {size n:Nat} {v:Value} {xs:List Value} {x y z u:Value} (h:w.ownsRow base e size v n xs) (hg:g < base):((((w.setCell ⟨g,0,none⟩ x).setCell ⟨g,1,none⟩ y).setCell ⟨g,2,none⟩ z).setCell ⟨g,3,none⟩ u).ownsRow base e size v n xs :=
 zat (zat (zat (zat h _ _ hg) _ _ hg) _ _ hg) _ _ hg
end CConv
end
section
namespace CKind
open Plain CSat CShape CTensor CConv
def NdBox (b:Nat) (x:Nd) (w:World):Prop:=NdAt b x w∧w.there b 0 19
theorem NdBox.new (x:Nd) (T:TypeId) (w:World):NdBox w.heap.size x (w.alloc (.cells x.val T)):=by
 refine⟨NdAt.new x T w,fun j hj=>?_⟩
 rw [Nat.zero_add]
 constructor
 ·rw [Kit.zaf]
  have:j < x.val.size:=hj
  simp [this]
 ·unfold World.frozen?;rw [heap_alloc_new];rfl
theorem NdBox.below {b B:Nat} {x:Nd} {w w':World} (h:NdBox b x w) (hB:b < B) (hb:Below B w w'):NdBox b x w' :=
 ⟨h.1.below hB hb,fun j hj=>⟨by rw [hb.cell (p:=⟨b,0+j,none⟩) hB];exact (h.2 j hj).1,by rw [hb.frozen (p:=⟨b,0+j,none⟩) hB];exact (h.2 j hj).2⟩⟩
theorem NdBox.set {b:Nat} {x y:Nd} {w:World} (h:NdBox b x w) (i:Nat) (v:Value) (hi:i < 19) (hy:x.val.toList.set i v=y.val.toList):NdBox b y (w.setCell ⟨b,i,none⟩ v):=by
 have hc:=(h.2 i hi).1
 rw [Nat.zero_add] at hc
 refine⟨fun j u hj=>?_,fun j hj=>⟨?_,?_⟩⟩
 ·rw [Nat.zero_add]
  rw [← hy,List.getElem?_set] at hj
  by_cases e:i=j
  ·subst e
   rw [if_pos rfl,if_pos (show i < x.val.toList.length from hi)] at hj
   cases hj
   exact World.cell?_setCell_same' _ _ _ hc
  ·rw [if_neg e] at hj
   rw [World.cell?_setCell_other _ _ _ _ (fun hh=>e (by injection hh))]
   have:=h.1 j u hj
   rwa [Nat.zero_add] at this
 ·rw [Nat.zero_add]
  by_cases e:i=j
  ·subst e
   rw [World.cell?_setCell_same' _ _ _ hc];rfl
  ·rw [World.cell?_setCell_other _ _ _ _ (fun hh=>e (by injection hh))]
   have:=(h.2 j hj).1
   rwa [Nat.zero_add] at this
 ·rw [World.frozen?_setCell];exact (h.2 j hj).2
theorem NdBox.fr {b:Nat} {x:Nd} {w:World} (h:NdBox b x w) (i:Nat) (hi:i < 19):w.frozen? ⟨b,i,none⟩=false:=by
 have:=(h.2 i hi).2
 rwa [Nat.zero_add] at this
theorem info_node:(Tryz.prog.info? 44).map (·.size)=some 19:=by kernel_rfl
theorem nd_one (x:Nd):x.val.all (·.oneCell')=true:=by simp [Nd.val,Value.oneCell']
theorem zas {ops:Array Oper} {rest:List Oper} {op:Oper} {a:Act} {w:World} {Q:Exit→Act→World→Prop} (hgd:op.guard=none) (x y:Operand) (ho:op.op=.store 44 x y)
  (b:Nat) (u v:Nd) (hx:a.eval x=.pointer (some ⟨b,0,none⟩)) (hy:a.eval y=.agg v.val) (hb:NdBox b u w)
  (h:∀ w',NdBox b v w'→Below b w w'→w'.heap.size=w.heap.size→wpList Tryz.prog ops Q rest (a.put op.dst undef) w'):wpList Tryz.prog ops Q (op :: rest) a w:=by
 refine wpList_store_mid hgd 44 x y ho b 0 v.val hx hy hb.2 info_node (nd_one v) ?_
 have go:∀ (vs:List Value) (o:Nat) (w:World),Below b w (w.setCells b o vs)∧(w.setCells b o vs).heap.size=w.heap.size:=by
  intro vs
  induction vs with
  | nil=>intro o w;exact⟨Below.refl _ _,rfl⟩
  | cons v vs ih=>intro o w;exact⟨((Below.refl b w).setCell (p:=⟨b,o,none⟩) (le_refl _) v).trans (ih (o+1) _).1,(ih (o+1) (w.setCell ⟨b,o,none⟩ v)).2.trans (by simp [World.setCell])⟩
 exact h _ ⟨World.rangeAt_setCells_same _ _ _ _ hb.2,World.there_setCells hb.2 _ _ _⟩ (go _ _ _).1 (go _ _ _).2
theorem zak {ops:Array Oper} {rest:List Oper} {op:Oper} {a:Act} {w:World} {Q:Exit→Act→World→Prop} (hgd:op.guard=none) (x:Operand) (ho:op.op=.load 44 x)
  (b:Nat) (u:Nd) (hx:a.eval x=.pointer (some ⟨b,0,none⟩)) (hb:NdAt b u w)
  (h:wpList Tryz.prog ops Q rest (a.put op.dst (.agg u.val)) w):wpList Tryz.prog ops Q (op :: rest) a w :=
 wpList_load_mid hgd 44 x ho b 0 hx u.val.toList _ hb Tryz.underlying44 rfl (by kernel_rfl) h
theorem zb3 {fn:Func} {p:Tmp} (h:fn.results=#[.cell p 44]) (tmps:Array Value) (w:World) (b:Nat) (x:Nd) (hp:tmps.getD p undef=.pointer (some ⟨b,0,none⟩)) (hb:NdAt b x w) :
  (results fn tmps).run Tryz.prog w=.ok (.agg x.val) w :=
 Kit.za6 h tmps w b 0 x.val.toList _ hp hb Tryz.underlying44 rfl (by kernel_rfl)
def Nd.zero:Nd:=⟨0,0,0,0,0,0,0,0,0,none,0,0,none,0,0,0,0,0,0,0,0,0,0⟩
def Nd.ownK (x:Nd) (k:Int):Nd :=
 ⟨k,x.na,if k == 6 then x.nb else 0,if slidesB k then x.K else 0,if slidesB k then x.S else 0,if slidesB k || k == 8 then x.P else 0,if k == 1 || k == 3 then x.O else 0,if zbv k || k == 8 then x.Z else 0,if k == 6 then x.Y else 0,
  if sumsB k then x.WA else none,if sumsB k then x.nW else 0,if sumsB k then x.cW else 0,if sumsB k then x.BA else none,if sumsB k then x.nB else 0,if sumsB k then x.cB else 0,
  if zbv k then x.m1 else 0,if zbv k then x.s1 else 0,if zbv k then x.z1 else 0,if k == 6 then x.m2 else 0,if k == 6 then x.s2 else 0,0,if zbv k then x.lo else 0,if zbv k then x.hi else 0⟩
end CKind
end
section
namespace CWheel
open Go Go.ChangeShapes Go.WideShapes Go.ChangeAt Go.RowKit
open FloatNum CFour
def manyN (rows:List (List Int)) (nW:Nat):Nat:=if fitB rows nW=true then (rows.getD 0 []).length - 2 else 0
theorem many_to (A:Option Addr) (rows:List (List Int)) (n cA:Nat) (AW:Option Addr) (nW cW:Nat) (W:Nat→Nat→Int) (m:Nat) (hn:rows.length=n) (hc:cA≤maxLen) (hnc:n≤cA) (hnW:nW≤1000000) (hL6:∀ row∈rows,row.length≤1000000) (hm:m=manyN rows nW)
  (hX:∀ k i,In16 (XR rows k i)) (hW:∀ k i,InW (W k i)) (F:Nat→Int) (hF:F=mnAt (XR rows) W n) (w:World) (hr:Kit.zbr w w.heap.size .i16 A rows) (hw:Wts w w.heap.size AW nW W) :
  Calls Tryz.prog 139 #[.slice A n cA,.slice AW nW cW] w (Own64 w m (nums F m)):=by
 have HR:=hid hr
 have HWT:=hid hw
 have HX:=hid hX
 have HW:=hid hW
 have HF:=hid hF
 have HL6:=hid hL6
 have HN:=hid hn
 cases hb:fitB rows nW
 ·obtain rfl:m=0:=by rw [hm];unfold manyN;rw [hb];rfl
  have HB:=hid hb
  clear hr hw hX hW hF hL6 hn hb hm
  go_enter Tryz.func139,Tryz.ntmps139
  go_wp2_with (go_at_call 150;refine (matched_to A rows n cA AW nW cW HN.out hc hnc hnW false HB.out _ HR.out).mono ?_;rintro e w2 ⟨rfl,rfl⟩)
  go_ret
  exact⟨_,rfl,own_nil _ _ _ _,Below.refl _ _⟩
 ·obtain⟨g1,g2,g3,g4⟩:=fit_yes hb
  have hm2:m=(rows.getD 0 []).length - 2:=by rw [hm];unfold manyN;rw [if_pos hb]
  obtain rfl:nW=n:=by omega
  have h1:1≤nW:=by omega
  have hN:nW≤1024:=by omega
  have hL:(rows.getD 0 []).length≤1000000:=by rw [row0 (by omega)];exact hL6 _ (List.getElem_mem _)
  have HB:=hid hb
  have HG:=hid g4
  have HM:=hid hm2
  have HLL:=hid hL
  clear hr hw hX hW hF hL6 hn hb hm g1 g2 g3 g4 hm2 hL
  go_enter Tryz.func139,Tryz.ntmps139
  go_wp2_with (first
   | (go_at_call 150;refine (matched_to A rows nW cA AW nW cW HN.out hc hnc hnW true HB.out _ HR.out).mono ?_;rintro e w2 ⟨rfl,rfl⟩)
   | (go_at_call 151;refine (added_to A rows nW cA AW cW W _ m HN.out h1 hN HG.out HM.out HLL.out HX.out HW.out F HF.out _ HR.out HWT.out).mono ?_;rintro e w3' ⟨v,rfl,hown,hbb⟩;have HO:=hid hown;have HBB:=hid hbb;clear hown hbb))
  go_ret
  exact⟨v,rfl,HO.out,HBB.out⟩
end CWheel
end
section
namespace CGemm
open Go Go.ChangeShapes Go.WideShapes Go.ChangeAt Go.RowKit
open Plain
def zci (L r c:Int):Bool:=decide (1≤r∧r≤16384∧1≤c∧c≤16384∧L=r * c)
theorem small_mul {r c:Int} (h1:1≤r) (h2:r≤16384) (h3:1≤c) (h4:c≤16384):1≤r * c∧r * c≤268435456:=by
 have a:=Int.mul_le_mul h2 h4 (by omega) (by omega)
 have b:=Int.mul_le_mul h1 h3 (by omega) (by omega)
 omega
theorem holdsB_yes {L r c:Int} (h:zci L r c=true):1≤r∧r≤16384∧1≤c∧c≤16384∧L=r * c:=by simpa [zci] using h
theorem holds_to (L r c:Int) (b:Bool) (hb:zci L r c=b) (w:World) :
  Calls Tryz.prog 156 #[.int .i64 L,.int .i64 r,.int .i64 c] w fun e w'=>e=.returned (.bool b)∧w=w':=by
 have HB:=hid hb
 clear hb
 rcases (show r < 1∨(1≤r∧16384 < r)∨(1≤r∧r≤16384∧c < 1)∨(1≤r∧r≤16384∧1≤c∧16384 < c)∨(1≤r∧r≤16384∧1≤c∧c≤16384) by omega) with h1 | ⟨h1,h2⟩ | ⟨h1,h2,h3⟩ | ⟨h1,h2,h3,h4⟩ | ⟨h1,h2,h3,h4⟩
 ·obtain rfl:b=false:=by rw [← HB.out];simp [zci];omega
  go_enter Tryz.func156,Tryz.ntmps156
  go_wp2_with fail
  go_ret
  exact⟨rfl,rfl⟩
 ·obtain rfl:b=false:=by rw [← HB.out];simp [zci];omega
  go_enter Tryz.func156,Tryz.ntmps156
  go_wp2_with fail
  go_ret
  exact⟨rfl,rfl⟩
 ·obtain rfl:b=false:=by rw [← HB.out];simp [zci];omega
  go_enter Tryz.func156,Tryz.ntmps156
  go_wp2_with fail
  go_ret
  exact⟨rfl,rfl⟩
 ·obtain rfl:b=false:=by rw [← HB.out];simp [zci];omega
  go_enter Tryz.func156,Tryz.ntmps156
  go_wp2_with fail
  go_ret
  exact⟨rfl,rfl⟩
 ·obtain⟨s1,s2⟩:=small_mul h1 h2 h3 h4
  have e:IntKind.i64.wrap (r * c)=r * c:=IntWalk.i64_in _ (by omega)
  have hbb:decide (L=r * c)=b:=by rw [← HB.out];simp [zci,h1,h2,h3,h4]
  obtain⟨q,hq⟩:∃ q,r * c=q:=⟨_,rfl⟩
  rw [hq] at e hbb
  have e2:IntKind.i64.wrap (r * c)=q:=by rw [hq];exact e
  clear hq s1 s2 HB
  go_enter Tryz.func156,Tryz.ntmps156
  go_wp2_with fail
  go_ret
  refine⟨?_,rfl⟩
  rw [← hbb]
  first | rfl | simp
theorem tiles_to (n:Nat) (h:n≤16384) (w:World) :
  Calls Tryz.prog 157 #[.int .i64 (n:Int)] w fun e w'=>e=.returned (.int .i64 (((n+31) / 32:Nat):Int))∧w=w':=by
 have e1:IntKind.i64.wrap ((n:Int)+32)=(n:Int)+32:=IntWalk.i64_in _ (by omega)
 have e2:IntKind.i64.wrap ((n:Int)+32 - 1)=(n:Int)+31:=by rw [IntWalk.i64_in _ (by omega)];omega
 have e3:((n:Int)+31).tdiv 32=(((n+31) / 32:Nat):Int):=by
  rw [Int.tdiv_eq_ediv_of_nonneg (by omega)];omega
 have e4:IntKind.i64.wrap ((((n+31) / 32:Nat):Int))=(((n+31) / 32:Nat):Int):=IntWalk.i64_in _ (by omega)
 generalize (n+31) / 32=q at e3 e4 ⊢
 go_enter Tryz.func157,Tryz.ntmps157
 go_wp2_with fail
 go_ret
 exact⟨rfl,rfl⟩
theorem zan {w:World} {b:Nat} {v0 v1 v2 v3:Value} (h0:w.cell? ⟨b,0,none⟩=some v0) (h1:w.cell? ⟨b,1,none⟩=some v1) (h2:w.cell? ⟨b,2,none⟩=some v2) (h3:w.cell? ⟨b,3,none⟩=some v3) :
  w.rangeAt b 0 [v0,v1,v2,v3]:=fun j v hj=>by
 match j,hj with
 | 0,hj=>simp only [List.getElem?_cons_zero] at hj;cases hj;exact h0
 | 1,hj=>simp at hj;cases hj;exact h1
 | 2,hj=>simp at hj;cases hj;exact h2
 | 3,hj=>simp at hj;cases hj;exact h3
 | j+4,hj=>simp at hj
theorem bounds_to (p q e0 e1 e2 e3:Nat) (h:p≤1000) (h':q≤1000) (h0:p * 32=e0) (h1:(p+1) * 32=e1) (h2:q * 32=e2) (h3:(q+1) * 32=e3) (w:World) :
  Calls Tryz.prog 158 #[.int .i64 (p:Int),.int .i64 (q:Int)] w fun e w'=>e=.returned (.agg #[.int .i64 (e0:Int),.int .i64 (e1:Int),.int .i64 (e2:Int),.int .i64 (e3:Int)])∧Below w.heap.size w w':=by
 obtain⟨p',hp⟩:∃ p':Int,(p:Int)+1=p':=⟨_,rfl⟩
 obtain⟨q',hq⟩:∃ q':Int,(q:Int)+1=q':=⟨_,rfl⟩
 have g1:IntKind.i64.wrap ((p:Int) * 32)=(e0:Int):=by rw [IntWalk.i64_in _ (by omega)];omega
 have g2:IntKind.i64.wrap ((p:Int)+1)=p':=by rw [IntWalk.i64_in _ (by omega)];omega
 have g3:IntKind.i64.wrap (p' * 32)=(e1:Int):=by rw [IntWalk.i64_in _ (by omega)];omega
 have f1:IntKind.i64.wrap ((q:Int) * 32)=(e2:Int):=by rw [IntWalk.i64_in _ (by omega)];omega
 have f2:IntKind.i64.wrap ((q:Int)+1)=q':=by rw [IntWalk.i64_in _ (by omega)];omega
 have f3:IntKind.i64.wrap (q' * 32)=(e3:Int):=by rw [IntWalk.i64_in _ (by omega)];omega
 clear hp hq h0 h1 h2 h3
 go_enter Tryz.func158,Tryz.ntmps158
 go_wp2_with fail
 refine bodyPost_ret (Kit.za6 rfl _ _ w.heap.size 0 [.int .i64 (e0:Int),.int .i64 (e1:Int),.int .i64 (e2:Int),.int .i64 (e3:Int)] _ rfl (zan (by go_cell) (by go_cell) (by go_cell) (by go_cell)) Tryz.underlying206 rfl (by kernel_rfl)) rfl ?_
 exact⟨rfl,(Below.refl _ _).alloc (le_refl _) _⟩
end CGemm
end
section
namespace CTensor
open Go Go.ChangeShapes Go.WideShapes Go.ChangeAt Go.RowKit
open Plain CSat CShape
def Made (w:World) (H W C:Int) (n:Nat) (zs:List Int) (x:Value) (e:Ending) (w':World):Prop :=
 ∃ v,e=.returned (.tuple #[.agg #[.int .i64 H,.int .i64 W,.int .i64 C,v],x])∧w'.ownsRow w.heap.size 39 1 v n (I8s zs)∧Below w.heap.size w w'
theorem of_yes (H W C:Int) (A:Option Addr) (zs:List Int) (n c:Nat) (hn:zs.length=n) (hl:n≤1000000) (ht:tensB H W C n=true) {B:Nat} (w:World) (hB:B≤w.heap.size) (hr:Kit.Rd w B A (zs.map (.int .i8))) :
  Calls Tryz.prog 95 #[.agg #[.int .i64 H,.int .i64 W,.int .i64 C],.slice A n c] w (Made w H W C n zs (.int .i64 0)):=by
 have HT:=hid ht
 have HN:=hid hn
 have HR:=hid hr
 clear ht hn hr
 go_enter Tryz.func95,Tryz.ntmps95
 have H0:=hid (Below.refl w.heap.size w)
 go_wp2_with (first
  | (go_at_call 13;((with_reducible refine (zac H W C A n c true HT.out _).mono ?_);(rintro e w1 ⟨rfl,hb⟩;obtain⟨hc,hf⟩:=Kit.bcell hb;have hz:w.heap.size+3≤w1.heap.size:=(by have:=hb.size;simp at this;omega);have hw1:Below w.heap.size w w1:=Below.trans (by go_grown) (hb.mono (by simp;omega));have HB:=hid hb)))
  | (go_at_call 123;have hrd:=HR.out.below (hw1.mono hB);((with_reducible refine (clone_to H W C A zs n c HN.out hl (B:=B) _ (by omega) hrd).mono ?_);(rintro e w2 ⟨v2,rfl,ho2,hb2⟩;obtain⟨hc2,hf2⟩:=Kit.bcell hb2;obtain⟨A2,c2,rfl,_,_,_⟩:=Kit.zam ho2;have HO:=hid ho2;have HB2:=hid (hw1.trans (hb2.mono (by omega)));have hz2:w1.heap.size≤w2.heap.size:=hb2.size;have hz3:w.heap.size+1 < w1.heap.size:=(by omega);clear hw1 hrd ho2))))
 refine bodyPost_ret (Kit.zaa rfl _ _ (w.heap.size+1) 0 [.int .i64 H,.int .i64 W,.int .i64 C,.slice A2 n c2] _ rfl (zan (by go_cell) (by go_cell) (by go_cell) (by go_cell)) Tryz.underlying27 rfl (by kernel_rfl)) rfl ?_
 refine⟨_,rfl,Kit.zah (zat (zat (zat (zat HO.out _ _ ?_) _ _ ?_) _ _ ?_) _ _ ?_) ?_,?_⟩
 any_goals (first | omega | (simp;done) | (simp;omega))
 exact ((((HB2.out.setCell (p:=⟨w.heap.size+1,0,none⟩) (by simp) _).setCell (p:=⟨w.heap.size+1,1,none⟩) (by simp) _).setCell (p:=⟨w.heap.size+1,2,none⟩) (by simp) _).setCell (p:=⟨w.heap.size+1,3,none⟩) (by simp) _)
def placeB (H W C:Int) (n:Nat) (h v c:Int):Bool:=tensB H W C n && inB H W C h v c
theorem pos_yes (H W C:Int) (A:Option Addr) (n k:Nat) (h v c:Int) (p:Nat) (hb:placeB H W C n h v c=true) (hp:(h * W+v) * C+c=p) (w:World) :
  Calls Tryz.prog 137 #[.agg #[.int .i64 H,.int .i64 W,.int .i64 C,.slice A n k],.int .i64 h,.int .i64 v,.int .i64 c] w fun e w'=>e=.returned (.tuple #[.int .i64 p,.bool true])∧Below w.heap.size w w':=by
 simp only [placeB,Bool.and_eq_true] at hb
 obtain⟨ht,hi⟩:=hb
 simp only [inB,Bool.and_eq_true,decide_eq_true_eq] at hi
 obtain⟨hs,h1,h2,h3,h4,h5,h6⟩:=hi
 have HT:=hid ht
 have HS:=hid hs
 have HP:=hid hp
 clear ht hs hp
 go_enter Tryz.func137,Tryz.ntmps137
 go_wp2_with (first
  | (go_at_call 13;((with_reducible refine (zac H W C A n k true HT.out _).mono ?_);(rintro e w1 ⟨rfl,hb⟩;obtain⟨hc,hf⟩:=Kit.bcell hb;have hz:w.heap.size < w1.heap.size:=(by have:=hb.size;simp at this;omega);have hw1:Below w.heap.size w w1:=Below.trans (by go_grown) (hb.mono (by simp)))))
  | (go_at_call 133;((with_reducible refine (index_yes H W C h v c _ HS.out h1 h2 h3 h4 h5 h6 HP.out _).mono ?_);(rintro e w2 ⟨rfl,hb2⟩;have HB:=hid (hw1.trans (hb2.mono (Nat.le_of_lt hz)));clear hb2))))
 go_ret2
 exact⟨rfl,HB.out⟩
theorem pos_no (H W C:Int) (A:Option Addr) (n k:Nat) (h v c:Int) (hb:placeB H W C n h v c=false) (w:World) :
  Calls Tryz.prog 137 #[.agg #[.int .i64 H,.int .i64 W,.int .i64 C,.slice A n k],.int .i64 h,.int .i64 v,.int .i64 c] w fun e w'=>e=.returned (.tuple #[.int .i64 0,.bool false])∧Below w.heap.size w w':=by
 cases ht:tensB H W C n
 ·have HT:=hid ht
  clear ht hb
  go_enter Tryz.func137,Tryz.ntmps137
  go_wp2_with (go_at_call 13;((with_reducible refine (zac H W C A n k false HT.out _).mono ?_);(rintro e w1 ⟨rfl,hb⟩;have HB:=hid (show Below w.heap.size w w1 from Below.trans (by go_grown) (hb.mono (by simp)));clear hb)))
  go_ret2
  exact⟨rfl,HB.out⟩
 ·have hi:inB H W C h v c=false:=by simpa [placeB,ht] using hb
  have HT:=hid ht
  have HI:=hid hi
  clear ht hb hi
  go_enter Tryz.func137,Tryz.ntmps137
  go_wp2_with (first
   | (go_at_call 13;((with_reducible refine (zac H W C A n k true HT.out _).mono ?_);(rintro e w1 ⟨rfl,hb⟩;obtain⟨hc,hf⟩:=Kit.bcell hb;have hz:w.heap.size < w1.heap.size:=(by have:=hb.size;simp at this;omega);have hw1:Below w.heap.size w w1:=Below.trans (by go_grown) (hb.mono (by simp)))))
   | (go_at_call 133;((with_reducible refine (index_no H W C h v c HI.out _).mono ?_);(rintro e w2 ⟨rfl,hb2⟩;have HB:=hid (hw1.trans (hb2.mono (Nat.le_of_lt hz)));clear hb2))))
  go_ret2
  exact⟨rfl,HB.out⟩
theorem at_no (H W C:Int) (A:Option Addr) (n k:Nat) (h v c:Int) (hb:placeB H W C n h v c=false) (w:World) :
  Calls Tryz.prog 122 #[.agg #[.int .i64 H,.int .i64 W,.int .i64 C,.slice A n k],.int .i64 h,.int .i64 v,.int .i64 c] w fun e w'=>e=.returned (.tuple #[.int .i8 0,.bool false])∧Below w.heap.size w w':=by
 have HB0:=hid hb
 clear hb
 go_enter Tryz.func122,Tryz.ntmps122
 go_wp2_with (go_at_call 137;((with_reducible refine (pos_no H W C A n k h v c HB0.out _).mono ?_);(rintro e w1 ⟨rfl,hb⟩;have HB:=hid (show Below w.heap.size w w1 from Below.trans (by go_grown) (hb.mono (by simp)));clear hb)))
 go_ret2
 exact⟨rfl,HB.out⟩
theorem at_yes (H W C:Int) (A:Option Addr) (zs:List Int) (n k:Nat) (hn:zs.length=n) (hk:n≤k) (hk9:n≤1000000) (h v c:Int) (p:Nat) (hb:placeB H W C n h v c=true) (hp:(h * W+v) * C+c=p) (x:Int) (hx:zs[p]?=some x) {B:Nat} (w:World) (hB:B≤w.heap.size) (hr:Kit.Rd w B A (zs.map (.int .i8))) :
  Calls Tryz.prog 122 #[.agg #[.int .i64 H,.int .i64 W,.int .i64 C,.slice A n k],.int .i64 h,.int .i64 v,.int .i64 c] w fun e w'=>e=.returned (.tuple #[.int .i8 x,.bool true])∧Below w.heap.size w w':=by
 have hpl:p < zs.length:=by
  rcases Nat.lt_or_ge p zs.length with h | h
  ·exact h
  ·rw [List.getElem?_eq_none h] at hx;cases hx
 obtain⟨b,off,rfl,hbB,hcell⟩:=hr.ints hpl
 rw [List.getElem?_eq_getElem hpl] at hx
 cases hx
 generalize zs[p]=x at hcell ⊢
 have hbw:b < w.heap.size:=by omega
 have hpn:p < n:=by omega
 have HB0:=hid hb
 have HP:=hid hp
 clear hb hp hr hn
 go_enter Tryz.func122,Tryz.ntmps122
 go_wp2_with (go_at_call 137;((with_reducible refine (pos_yes H W C _ n k h v c p HB0.out HP.out _).mono ?_);(rintro e w1 ⟨rfl,hb⟩;obtain⟨hc,hf⟩:=Kit.bcell hb;have hz:w.heap.size < w1.heap.size:=(by have:=hb.size;simp at this;omega);have hcl:w1.cell? ⟨b,off+p,none⟩=some (.int .i8 x):=((hb.cell (p:=⟨b,off+p,none⟩) (by simp;omega)).trans ((World.cell?_alloc_lt _ _ _ hbw).trans hcell));have HB:=hid (show Below w.heap.size w w1 from Below.trans (by go_grown) (hb.mono (by simp)));clear hb)))
 go_ret2
 exact⟨rfl,HB.out⟩
end CTensor
end
end Go.Proofs.YtahekhpeomcfjaaGreatDoor
