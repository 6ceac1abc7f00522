/- -/
import Derived.Test.YtceehogkckdbkaaDoorGH4
open Go.Lib (hid)
open Nat (le_refl lt_of_succ_lt lt_succ_self)
set_option linter.unusedVariables false
set_option linter.unusedSimpArgs false
set_option maxRecDepth 100000
set_option maxHeartbeats 16000000
namespace Go.Proofs.YtceehogkckdbkaaDoor
namespace CSat
end CSat
open Go Go.ChangeShapes Go.WideShapes Go.ChangeAt Go.RowKit
section
namespace CFix
open Plain CSat
def zam (v:Int) (s:Nat):Int :=
 if v < 0 then -(((v.natAbs+2 ^ s / 2) / 2 ^ s:Nat):Int) else (((v.natAbs+2 ^ s / 2) / 2 ^ s:Nat):Int)
theorem right_yes (s:Int) (h1:0≤s) (h2:s≤62) (w:World) :
  Calls Tryd.prog 83 #[.int .i64 s] w fun e w'=>e=.returned (.bool true)∧w=w':=by
 go_enter Tryd.func83,Tryd.ntmps83
 go_wp2
 go_ret
 exact⟨rfl,rfl⟩
theorem right_no (s:Int) (h:s < 0∨62 < s) (w:World) :
  Calls Tryd.prog 83 #[.int .i64 s] w fun e w'=>e=.returned (.bool false)∧w=w':=by
 rcases h with h | h
 ·go_enter Tryd.func83,Tryd.ntmps83
  go_wp2
  go_ret
  exact⟨rfl,rfl⟩
 ·by_cases h0:0≤s
  ·have hd:decide (s≤62)=false:=by simp;omega
   go_enter Tryd.func83,Tryd.ntmps83
   go_wp2
   go_ret
   exact⟨rfl,rfl⟩
  ·go_enter Tryd.func83,Tryd.ntmps83
   go_wp2
   go_ret
   exact⟨rfl,rfl⟩
theorem pow_bd (s:Nat) (h:s≤62):∃ p:Nat,2 ^ s=p∧1≤p∧p≤4611686018427387904∧((2:Int) ^ s=(p:Int)):=by
 refine⟨2 ^ s,rfl,Nat.one_le_two_pow,?_,by simp⟩
 exact Nat.pow_le_pow_right (by omega) h
theorem round_size (n p:Nat) (hp:1≤p) (hp2:p≤4611686018427387904) (hn:n≤9223372036854775808) :
  (n+p / 2) / p≤9223372036854775808∧(n≤9223372036854775807→(n+p / 2) / p≤9223372036854775807):=by
 have h1:(n+p / 2) / p≤n:=by
  rcases Nat.lt_or_ge 1 p with h | h
  ·rcases Nat.eq_zero_or_pos n with h0 | h0
   ·subst h0;rw [Nat.zero_add];rw [Nat.div_eq_of_lt (by omega)];omega
   ·apply Nat.div_le_of_le_mul
    have:p * 1≤p * n:=Nat.mul_le_mul_left p h0
    have h2:2 * n≤p * n:=Nat.mul_le_mul_right n h
    omega
  ·have:p=1:=by omega
   subst this;simp
 omega
theorem div_back (x:Int) (n p q:Nat) (hq:q=(n+p / 2) / p) (h:x=(n:Int)):(x+(p:Int) / 2) / (p:Int)=(q:Int):=by
 subst hq h;simp
theorem neg_q (q:Nat) (h:q≤9223372036854775808):wrap64 (-wrap64 (q:Int)) = -(q:Int):=by unfold wrap64;omega
theorem round_yes (v:Int) (s:Nat) (h:s≤62) (hv1 : -9223372036854775808≤v) (hv2:v≤9223372036854775807) (w:World) :
  Calls Tryd.prog 95 #[.int .i64 v,.int .i64 (s:Int)] w fun e w'=>e=.returned (.int .i64 (zam v s))∧w=w':=by
 obtain⟨p,hp,hp1,hp2,hpi⟩:=pow_bd s h
 obtain⟨q,hq⟩:∃ q,q=(v.natAbs+p / 2) / p:=⟨_,rfl⟩
 have hqs:=round_size v.natAbs p hp1 hp2 (by omega)
 rw [← hq] at hqs
 obtain⟨hq1,hq2⟩:=hqs
 by_cases hn:v < 0
 ·have hr:zam v s = -(q:Int):=by unfold zam;rw [if_pos hn,hp,hq]
  rw [hr]
  have hx:IntKind.u64.wrap v=v+18446744073709551616:=by rw [IntKind.wrap_u64];omega
  have hy:IntKind.u64.wrap (-(v+18446744073709551616)) = -v:=by rw [IntKind.wrap_u64];omega
  have hz:(-v+(p:Int) / 2) / (p:Int)=(q:Int):=div_back _ _ _ _ hq (by omega)
  clear hr hq2 hp hq
  go_enter Tryd.func95,Tryd.ntmps95
  go_wp2_with (go_at_call 83;refine (right_yes _ (by omega) (by omega) _).mono ?_;rintro e w' ⟨rfl,rfl⟩)
  refine Kit.wp_scope_once 0 rfl ?_
  go_wp2_with (go_at_call 83;refine (right_yes _ (by omega) (by omega) _).mono ?_;rintro e w' ⟨rfl,rfl⟩)
  go_step3
  refine⟨rfl,?_⟩
  go_wp2
  rw [Exit.noGoto_ret]
  go_ret
  exact⟨ret_int (neg_q q hq1),rfl⟩
 ·have hr:zam v s=(q:Int):=by unfold zam;rw [if_neg hn,hp,hq]
  rw [hr]
  have hz:(v+(p:Int) / 2) / (p:Int)=(q:Int):=div_back _ _ _ _ hq (by omega)
  have hq3:=hq2 (by omega)
  clear hr hq2 hp hq
  go_enter Tryd.func95,Tryd.ntmps95
  go_wp2_with (go_at_call 83;refine (right_yes _ (by omega) (by omega) _).mono ?_;rintro e w' ⟨rfl,rfl⟩)
  go_step3
  go_wp2_with (go_at_call 83;refine (right_yes _ (by omega) (by omega) _).mono ?_;rintro e w' ⟨rfl,rfl⟩)
  go_step3
  go_wp2
  rw [Exit.noGoto_ret]
  go_ret
  exact⟨rfl,rfl⟩
theorem round_abs (v:Int) (s:Nat) (h:s≤62) (hv1 : -9223372036854775808≤v) (hv2:v≤9223372036854775807):(zam v s).natAbs≤v.natAbs:=by
 obtain⟨p,hp,hp1,hp2,hpi⟩:=pow_bd s h
 have h1:(v.natAbs+p / 2) / p≤v.natAbs:=by
  rcases Nat.lt_or_ge 1 p with h | h
  ·rcases Nat.eq_zero_or_pos v.natAbs with h0 | h0
   ·rw [h0,Nat.zero_add,Nat.div_eq_of_lt (by omega)];omega
   ·apply Nat.div_le_of_le_mul
    have:p * 1≤p * v.natAbs:=Nat.mul_le_mul_left p h0
    have h2:2 * v.natAbs≤p * v.natAbs:=Nat.mul_le_mul_right _ h
    omega
  ·have:p=1:=by omega
   subst this;simp
 unfold zam
 rw [hp]
 generalize (v.natAbs+p / 2) / p=t at *
 split <;> omega
theorem scale_yes (a m:Int) (s:Nat) (h:s≤62) (ha1 : -2147483648≤a) (ha2:a≤2147483647) (hm1 : -2147483648≤m) (hm2:m≤2147483647) (w:World) :
  Calls Tryd.prog 85 #[.int .i32 a,.int .i32 m,.int .i64 (s:Int)] w fun e w'=>e=.returned (.int .i64 (zam (a * m) s))∧w=w':=by
 obtain⟨h1,h2⟩:=mul_bd a m ha1 ha2 hm1 hm2
 go_enter Tryd.func85,Tryd.ntmps85
 go_wp2_with (go_at_call 95;refine (round_yes _ s h (by omega) (by omega) _).mono ?_;rintro e w' ⟨rfl,rfl⟩)
 go_ret
 exact⟨rfl,rfl⟩
theorem scale_to (a m:Int) (s:Nat) (t:Int) (h:s≤62) (ha1 : -2147483648≤a) (ha2:a≤2147483647) (hm1 : -2147483648≤m) (hm2:m≤2147483647) (ht:zam (a * m) s=t) (w:World) :
  Calls Tryd.prog 85 #[.int .i32 a,.int .i32 m,.int .i64 (s:Int)] w fun e w'=>e=.returned (.int .i64 t)∧w=w':=ht ▸ scale_yes a m s h ha1 ha2 hm1 hm2 w
def zah (m s:Int):Bool:=decide (0 < m∧0≤s∧s≤62)
theorem isRight_yes (m s z:Int) (h:zah m s=true) (w:World) :
  Calls Tryd.prog 49 #[.agg #[.int .i32 m,.int .i64 s,.int .i8 z]] w fun e w'=>e=.returned (.bool true)∧Below w.heap.size w w':=by
 obtain⟨h1,h2,h3⟩:0 < m∧0≤s∧s≤62:=by simpa [zah] using h
 clear h
 go_enter Tryd.func49,Tryd.ntmps49
 go_wp2_with (go_at_call 83;refine (right_yes _ (by omega) (by omega) _).mono ?_;rintro e w' ⟨rfl,rfl⟩)
 go_ret
 exact⟨rfl,(Below.refl _ _).alloc (le_refl _) _⟩
theorem isRight_no (m s z:Int) (h:zah m s=false) (w:World) :
  Calls Tryd.prog 49 #[.agg #[.int .i32 m,.int .i64 s,.int .i8 z]] w fun e w'=>e=.returned (.bool false)∧Below w.heap.size w w':=by
 have h0:¬ (0 < m∧0≤s∧s≤62):=by simpa [zah] using h
 clear h
 by_cases h1:0 < m
 ·have h2:s < 0∨62 < s:=by omega
  clear h0
  go_enter Tryd.func49,Tryd.ntmps49
  go_wp2_with (go_at_call 83;refine (right_no _ h2 _).mono ?_;rintro e w' ⟨rfl,rfl⟩)
  go_ret
  exact⟨rfl,(Below.refl _ _).alloc (le_refl _) _⟩
 ·have hd:decide (0 < m)=false:=by simpa using h1
  clear h0
  go_enter Tryd.func49,Tryd.ntmps49
  go_wp2_with fail
  go_ret
  exact⟨rfl,(Below.refl _ _).alloc (le_refl _) _⟩
def heldZ (a m s z lo hi:Int):Int:=if zah m s then clampZ (zam (a * m) s.toNat+z) lo hi else 0
theorem held (a m s z lo hi:Int) (ha1 : -2147483648≤a) (ha2:a≤2147483647) (hm1 : -2147483648≤m) (hm2:m≤2147483647) (hz1 : -128≤z) (hz2:z≤127)
  (hl1 : -128≤lo) (hl2:lo≤127) (hh1 : -128≤hi) (hh2:hi≤127) (w:World) :
  Calls Tryd.prog 55 #[.int .i32 a,.agg #[.int .i32 m,.int .i64 s,.int .i8 z],.int .i8 lo,.int .i8 hi] w fun e w'=>e=.returned (.int .i8 (heldZ a m s z lo hi))∧Below w.heap.size w w':=by
 obtain⟨h1,h2⟩:=mul_bd a m ha1 ha2 hm1 hm2
 cases hr:zah m s
 ·have hv:heldZ a m s z lo hi=0:=by unfold heldZ;rw [hr];rfl
  rw [hv]
  have HR:=hid hr
  clear hr hv
  go_enter Tryd.func55,Tryd.ntmps55
  go_wp2_with (go_at_call 49;refine (isRight_no _ _ _ HR.out _).mono ?_;rintro e w1 ⟨rfl,hb⟩;obtain⟨hc,hf⟩:=Kit.bcell hb)
  go_ret
  exact⟨rfl,((Below.refl _ _).alloc (le_refl _) _).trans (hb.mono (by simp))⟩
 ·obtain⟨h3,h4,h5⟩:0 < m∧0≤s∧s≤62:=by simpa [zah] using hr
  obtain⟨n,rfl⟩:=Int.eq_ofNat_of_zero_le h4
  have hv:heldZ a m n z lo hi=clampZ (zam (a * m) n+z) lo hi:=by unfold heldZ;rw [hr];rfl
  rw [hv]
  have hn:n≤62:=by omega
  have hra:=round_abs (a * m) n hn (by omega) (by omega)
  obtain⟨t,ht⟩:∃ t,zam (a * m) n=t:=⟨_,rfl⟩
  rw [ht] at hra
  rw [ht]
  have ht1 : -4611686018427387904≤t:=by omega
  have ht2:t≤4611686018427387904:=by omega
  have HR:=hid hr
  have HT:=hid ht
  clear hr hv ht hra
  go_enter Tryd.func55,Tryd.ntmps55
  go_wp2_with (go_at_call 49;refine (isRight_yes _ _ _ HR.out _).mono ?_;rintro e w1 ⟨rfl,hb⟩;obtain⟨hc,hf⟩:=Kit.bcell hb)
  go_quiet ((first
   | (go_at_call 85;exact Kit.quiet_l (scale_to _ _ _ t hn ha1 ha2 hm1 hm2 HT.out _))
   | (go_at_call 86;exact Kit.quiet_l (clamp _ _ _ (by omega) (by omega) (by omega) (by omega) _))))
  go_wp2
  go_ret
  exact⟨rfl,Kit.below_drewN (((Below.refl _ _).alloc (le_refl _) _).trans (hb.mono (by simp))) _⟩
end CFix
end
end Go.Proofs.YtceehogkckdbkaaDoor
