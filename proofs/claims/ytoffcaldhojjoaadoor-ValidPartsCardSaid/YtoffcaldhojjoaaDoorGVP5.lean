/- -/
import Derived.Lib.SmallJoins
import Derived.Lib.SliceRun
import Derived.Test.YtoffcaldhojjoaaDoorGVP4
open Go.Lib (hid)
open Nat (le_refl lt_of_succ_lt lt_succ_self)
set_option linter.unusedVariables false
set_option linter.unusedSimpArgs false
set_option maxRecDepth 100000
set_option maxHeartbeats 16000000
namespace Go.Proofs.YtoffcaldhojjoaaDoor
namespace CSat
end CSat
namespace CShape
end CShape
open Go Go.ChangeShapes Go.WideShapes Go.ChangeAt Go.RowKit Go.Deep
section
namespace Kit
section
variable {H:Type} {enc:TypeId × Value→H} {P:Program} {w:World} {base b0:Nat} {spare:Nat→Bool} {held:Bool} {r:Reach}
theorem trod_islice_n {d e:TypeId} {k:IntKind} {c3:Value} {n:Nat} {x:DataW H × List MemPlace} (hd:P.underlying d=some (.slice e)) (he:P.underlying e=some (.int k)) (hce:P.cellsOf e=1) (h1:DataW.trod enc P w base spare held n d [c3]=some x) :
  ∃ (A:Option Addr) (zs:List Int) (c:Nat),c3=.slice A zs.length c∧zs.length≤c∧c≤maxLen∧(∀ n∈zs,(Lit.int k n).wf=true)∧Rd w w.heap.size A (zs.map (.int k)):=by
 obtain⟨a3,len,cap,e3⟩:=Go.Joins.slice_form hd h1
 simp at e3
 subst e3
 rcases open_ints hd he hce h1 with ⟨hcs,_⟩ | ⟨a,len',cap',zs,hcs,_,hl,hm,hz,_,hcell,hwz⟩
 ·simp at hcs
  obtain⟨rfl,rfl,rfl⟩:=hcs
  exact⟨none,[],0,rfl,by simp,by simp,by simp,Rd.nil⟩
 ·simp at hcs
  obtain⟨rfl,rfl,rfl⟩:=hcs
  have hlz:len≤zs.length:=by rw [hz];split <;> omega
  refine⟨some a,zs.take len,cap,?_,?_,hm,fun n hn=>hwz n (List.mem_of_mem_take hn),fun j u hu=>?_⟩
  ·rw [List.length_take,Nat.min_eq_left hlz]
  ·rw [List.length_take,Nat.min_eq_left hlz];exact hl
  ·rw [List.getElem?_map,List.getElem?_take] at hu
   split at hu
   ·rename_i hj
    have hjz:j < zs.length:=by omega
    rw [List.getElem?_eq_getElem hjz] at hu
    simp only [Option.map_some,Option.some.injEq] at hu
    subst hu
    have h9:=hcell j hjz
    rw [List.getD_eq_getElem?_getD,List.getElem?_eq_getElem hjz,Option.getD_some] at h9
    exact⟨a,rfl,by have:=block_lt h9;rwa [add_block] at this,h9⟩
   ·simp at hu
end
end Kit
end
section
namespace CTensor
open Go Go.ChangeShapes Go.WideShapes Go.ChangeAt Go.RowKit
open Plain CSat CShape
def I8s (zs:List Int):List Value:=zs.map (.int .i8)
end CTensor
end
section
namespace CFix
open Go Go.ChangeShapes Go.WideShapes Go.ChangeAt Go.RowKit
open Plain CSat
def za6 (v:Int) (s:Nat):Int :=
 if v < 0 then -(((v.natAbs+2 ^ s / 2) / 2 ^ s:Nat):Int) else (((v.natAbs+2 ^ s / 2) / 2 ^ s:Nat):Int)
theorem right_yes (s:Int) (h1:0≤s) (h2:s≤62) (w:World) :
  Calls Tryd.prog 86 #[.int .i64 s] w fun e w'=>e=.returned (.bool true)∧w=w':=by
 go_enter Tryd.func86,Tryd.ntmps86
 go_wp2
 go_ret
 exact⟨rfl,rfl⟩
theorem right_no (s:Int) (h:s < 0∨62 < s) (w:World) :
  Calls Tryd.prog 86 #[.int .i64 s] w fun e w'=>e=.returned (.bool false)∧w=w':=by
 rcases h with h | h
 ·go_enter Tryd.func86,Tryd.ntmps86
  go_wp2
  go_ret
  exact⟨rfl,rfl⟩
 ·by_cases h0:0≤s
  ·have hd:decide (s≤62)=false:=by simp;omega
   go_enter Tryd.func86,Tryd.ntmps86
   go_wp2
   go_ret
   exact⟨rfl,rfl⟩
  ·go_enter Tryd.func86,Tryd.ntmps86
   go_wp2
   go_ret
   exact⟨rfl,rfl⟩
theorem pow_bd (s:Nat) (h:s≤62):∃ p:Nat,2 ^ s=p∧1≤p∧p≤4611686018427387904∧((2:Int) ^ s=(p:Int)):=by
 refine⟨2 ^ s,rfl,Nat.one_le_two_pow,?_,by simp⟩
 exact Nat.pow_le_pow_right (by omega) h
theorem round_size (n p:Nat) (hp:1≤p) (hp2:p≤4611686018427387904) (hn:n≤9223372036854775808) :
  (n+p / 2) / p≤9223372036854775808∧(n≤9223372036854775807→(n+p / 2) / p≤9223372036854775807):=by
 have h1:(n+p / 2) / p≤n:=by
  rcases Nat.lt_or_ge 1 p with h | h
  ·rcases Nat.eq_zero_or_pos n with h0 | h0
   ·subst h0;rw [Nat.zero_add];rw [Nat.div_eq_of_lt (by omega)];omega
   ·apply Nat.div_le_of_le_mul
    have:p * 1≤p * n:=Nat.mul_le_mul_left p h0
    have h2:2 * n≤p * n:=Nat.mul_le_mul_right n h
    omega
  ·have:p=1:=by omega
   subst this;simp
 omega
theorem div_back (x:Int) (n p q:Nat) (hq:q=(n+p / 2) / p) (h:x=(n:Int)):(x+(p:Int) / 2) / (p:Int)=(q:Int):=by
 subst hq h;simp
theorem neg_q (q:Nat) (h:q≤9223372036854775808):wrap64 (-wrap64 (q:Int)) = -(q:Int):=by unfold wrap64;omega
theorem round_yes (v:Int) (s:Nat) (h:s≤62) (hv1 : -9223372036854775808≤v) (hv2:v≤9223372036854775807) (w:World) :
  Calls Tryd.prog 103 #[.int .i64 v,.int .i64 (s:Int)] w fun e w'=>e=.returned (.int .i64 (za6 v s))∧w=w':=by
 obtain⟨p,hp,hp1,hp2,hpi⟩:=pow_bd s h
 obtain⟨q,hq⟩:∃ q,q=(v.natAbs+p / 2) / p:=⟨_,rfl⟩
 have hqs:=round_size v.natAbs p hp1 hp2 (by omega)
 rw [← hq] at hqs
 obtain⟨hq1,hq2⟩:=hqs
 by_cases hn:v < 0
 ·have hr:za6 v s = -(q:Int):=by unfold za6;rw [if_pos hn,hp,hq]
  rw [hr]
  have hx:IntKind.u64.wrap v=v+18446744073709551616:=by rw [IntKind.wrap_u64];omega
  have hy:IntKind.u64.wrap (-(v+18446744073709551616)) = -v:=by rw [IntKind.wrap_u64];omega
  have hz:(-v+(p:Int) / 2) / (p:Int)=(q:Int):=div_back _ _ _ _ hq (by omega)
  clear hr hq2 hp hq
  go_enter Tryd.func103,Tryd.ntmps103
  go_wp2_with (go_at_call 86;refine (right_yes _ (by omega) (by omega) _).mono ?_;rintro e w' ⟨rfl,rfl⟩)
  refine Kit.wp_scope_once 0 rfl ?_
  go_wp2_with (go_at_call 86;refine (right_yes _ (by omega) (by omega) _).mono ?_;rintro e w' ⟨rfl,rfl⟩)
  go_step3
  refine⟨rfl,?_⟩
  go_wp2
  rw [Exit.noGoto_ret]
  go_ret
  exact⟨zbn (neg_q q hq1),rfl⟩
 ·have hr:za6 v s=(q:Int):=by unfold za6;rw [if_neg hn,hp,hq]
  rw [hr]
  have hz:(v+(p:Int) / 2) / (p:Int)=(q:Int):=div_back _ _ _ _ hq (by omega)
  have hq3:=hq2 (by omega)
  clear hr hq2 hp hq
  go_enter Tryd.func103,Tryd.ntmps103
  go_wp2_with (go_at_call 86;refine (right_yes _ (by omega) (by omega) _).mono ?_;rintro e w' ⟨rfl,rfl⟩)
  go_step3
  go_wp2_with (go_at_call 86;refine (right_yes _ (by omega) (by omega) _).mono ?_;rintro e w' ⟨rfl,rfl⟩)
  go_step3
  go_wp2
  rw [Exit.noGoto_ret]
  go_ret
  exact⟨rfl,rfl⟩
theorem round_abs (v:Int) (s:Nat) (h:s≤62) (hv1 : -9223372036854775808≤v) (hv2:v≤9223372036854775807):(za6 v s).natAbs≤v.natAbs:=by
 obtain⟨p,hp,hp1,hp2,hpi⟩:=pow_bd s h
 have h1:(v.natAbs+p / 2) / p≤v.natAbs:=by
  rcases Nat.lt_or_ge 1 p with h | h
  ·rcases Nat.eq_zero_or_pos v.natAbs with h0 | h0
   ·rw [h0,Nat.zero_add,Nat.div_eq_of_lt (by omega)];omega
   ·apply Nat.div_le_of_le_mul
    have:p * 1≤p * v.natAbs:=Nat.mul_le_mul_left p h0
    have h2:2 * v.natAbs≤p * v.natAbs:=Nat.mul_le_mul_right _ h
    omega
  ·have:p=1:=by omega
   subst this;simp
 unfold za6
 rw [hp]
 generalize (v.natAbs+p / 2) / p=t at *
 split <;> omega
theorem scale_yes (a m:Int) (s:Nat) (h:s≤62) (ha1 : -2147483648≤a) (ha2:a≤2147483647) (hm1 : -2147483648≤m) (hm2:m≤2147483647) (w:World) :
  Calls Tryd.prog 101 #[.int .i32 a,.int .i32 m,.int .i64 (s:Int)] w fun e w'=>e=.returned (.int .i64 (za6 (a * m) s))∧w=w':=by
 obtain⟨h1,h2⟩:=mul_bd a m ha1 ha2 hm1 hm2
 go_enter Tryd.func101,Tryd.ntmps101
 go_wp2_with (go_at_call 103;refine (round_yes _ s h (by omega) (by omega) _).mono ?_;rintro e w' ⟨rfl,rfl⟩)
 go_ret
 exact⟨rfl,rfl⟩
theorem scale_to (a m:Int) (s:Nat) (t:Int) (h:s≤62) (ha1 : -2147483648≤a) (ha2:a≤2147483647) (hm1 : -2147483648≤m) (hm2:m≤2147483647) (ht:za6 (a * m) s=t) (w:World) :
  Calls Tryd.prog 101 #[.int .i32 a,.int .i32 m,.int .i64 (s:Int)] w fun e w'=>e=.returned (.int .i64 t)∧w=w':=ht ▸ scale_yes a m s h ha1 ha2 hm1 hm2 w
def zat (m s:Int):Bool:=decide (0 < m∧0≤s∧s≤62)
theorem isRight_yes (m s z:Int) (h:zat m s=true) (w:World) :
  Calls Tryd.prog 71 #[.agg #[.int .i32 m,.int .i64 s,.int .i8 z]] w fun e w'=>e=.returned (.bool true)∧Below w.heap.size w w':=by
 obtain⟨h1,h2,h3⟩:0 < m∧0≤s∧s≤62:=by simpa [zat] using h
 clear h
 go_enter Tryd.func71,Tryd.ntmps71
 go_wp2_with (go_at_call 86;refine (right_yes _ (by omega) (by omega) _).mono ?_;rintro e w' ⟨rfl,rfl⟩)
 go_ret
 exact⟨rfl,(Below.refl _ _).alloc (le_refl _) _⟩
theorem isRight_no (m s z:Int) (h:zat m s=false) (w:World) :
  Calls Tryd.prog 71 #[.agg #[.int .i32 m,.int .i64 s,.int .i8 z]] w fun e w'=>e=.returned (.bool false)∧Below w.heap.size w w':=by
 have h0:¬ (0 < m∧0≤s∧s≤62):=by simpa [zat] using h
 clear h
 by_cases h1:0 < m
 ·have h2:s < 0∨62 < s:=by omega
  clear h0
  go_enter Tryd.func71,Tryd.ntmps71
  go_wp2_with (go_at_call 86;refine (right_no _ h2 _).mono ?_;rintro e w' ⟨rfl,rfl⟩)
  go_ret
  exact⟨rfl,(Below.refl _ _).alloc (le_refl _) _⟩
 ·have hd:decide (0 < m)=false:=by simpa using h1
  clear h0
  go_enter Tryd.func71,Tryd.ntmps71
  go_wp2_with fail
  go_ret
  exact⟨rfl,(Below.refl _ _).alloc (le_refl _) _⟩
def heldZ (a m s z lo hi:Int):Int:=if zat m s then zbl (za6 (a * m) s.toNat+z) lo hi else 0
theorem held (a m s z lo hi:Int) (ha1 : -2147483648≤a) (ha2:a≤2147483647) (hm1 : -2147483648≤m) (hm2:m≤2147483647) (hz1 : -128≤z) (hz2:z≤127)
  (hl1 : -128≤lo) (hl2:lo≤127) (hh1 : -128≤hi) (hh2:hi≤127) (w:World) :
  Calls Tryd.prog 93 #[.int .i32 a,.agg #[.int .i32 m,.int .i64 s,.int .i8 z],.int .i8 lo,.int .i8 hi] w fun e w'=>e=.returned (.int .i8 (heldZ a m s z lo hi))∧Below w.heap.size w w':=by
 obtain⟨h1,h2⟩:=mul_bd a m ha1 ha2 hm1 hm2
 cases hr:zat m s
 ·have hv:heldZ a m s z lo hi=0:=by unfold heldZ;rw [hr];rfl
  rw [hv]
  have HR:=hid hr
  clear hr hv
  go_enter Tryd.func93,Tryd.ntmps93
  go_wp2_with (go_at_call 71;refine (isRight_no _ _ _ HR.out _).mono ?_;rintro e w1 ⟨rfl,hb⟩;obtain⟨hc,hf⟩:=Kit.bcell hb)
  go_ret
  exact⟨rfl,((Below.refl _ _).alloc (le_refl _) _).trans (hb.mono (by simp))⟩
 ·obtain⟨h3,h4,h5⟩:0 < m∧0≤s∧s≤62:=by simpa [zat] using hr
  obtain⟨n,rfl⟩:=Int.eq_ofNat_of_zero_le h4
  have hv:heldZ a m n z lo hi=zbl (za6 (a * m) n+z) lo hi:=by unfold heldZ;rw [hr];rfl
  rw [hv]
  have hn:n≤62:=by omega
  have hra:=round_abs (a * m) n hn (by omega) (by omega)
  obtain⟨t,ht⟩:∃ t,za6 (a * m) n=t:=⟨_,rfl⟩
  rw [ht] at hra
  rw [ht]
  have ht1 : -4611686018427387904≤t:=by omega
  have ht2:t≤4611686018427387904:=by omega
  have HR:=hid hr
  have HT:=hid ht
  clear hr hv ht hra
  go_enter Tryd.func93,Tryd.ntmps93
  go_wp2_with (go_at_call 71;refine (isRight_yes _ _ _ HR.out _).mono ?_;rintro e w1 ⟨rfl,hb⟩;obtain⟨hc,hf⟩:=Kit.bcell hb)
  go_quiet ((first
   | (go_at_call 101;exact Kit.quiet_l (scale_to _ _ _ t hn ha1 ha2 hm1 hm2 HT.out _))
   | (go_at_call 102;exact Kit.quiet_l (clamp _ _ _ (by omega) (by omega) (by omega) (by omega) _))))
  go_wp2
  go_ret
  exact⟨rfl,Kit.below_drewN (((Below.refl _ _).alloc (le_refl _) _).trans (hb.mono (by simp))) _⟩
end CFix
end
section
namespace CTensor
open Go Go.ChangeShapes Go.WideShapes Go.ChangeAt Go.RowKit
open Plain CSat CShape
theorem eqShape (a b c x y z:Int) (w:World):(Op.equalIn 10000 30 (.agg #[.int .i64 a,.int .i64 b,.int .i64 c]) (.agg #[.int .i64 x,.int .i64 y,.int .i64 z])).run Tryd.prog w=.ok (a == x && (b == y && c == z)) w:=by
 have u3:=Tryd.underlying3
 have a3:=Tryd.isAgg3
 have z3:=Tryd.sizeOf3
 have hS:Tryd.prog.underlying 30=some (.struct (Tryd.prog.fieldsOf 30)):=by kernel_rfl
 rw [show (10000:Nat)=9999+1 from rfl,run_equalIn_agg w 9999 30 _ _ hS Tryd.stoodInHeld30]
 simp only [Program.fieldsOf,Tryd.underlying30]
 go_simp
 by_cases h1:a=x <;> by_cases h2:b=y <;> by_cases h3:c=z <;> simp [h1,h2,h3]
end CTensor
end
section
namespace CFix
open Go Go.ChangeShapes Go.WideShapes Go.ChangeAt Go.RowKit
open Plain CSat
theorem scale_int (a m s t:Int) (h1:0≤s) (h2:s≤62) (ha1 : -2147483648≤a) (ha2:a≤2147483647) (hm1 : -2147483648≤m) (hm2:m≤2147483647) (ht:za6 (a * m) s.toNat=t) (w:World) :
  Calls Tryd.prog 101 #[.int .i32 a,.int .i32 m,.int .i64 s] w fun e w'=>e=.returned (.int .i64 t)∧w=w':=by
 obtain⟨n,rfl⟩:=Int.eq_ofNat_of_zero_le h1
 exact ht ▸ scale_yes a m n (by omega) ha1 ha2 hm1 hm2 w
end CFix
end
end Go.Proofs.YtoffcaldhojjoaaDoor
