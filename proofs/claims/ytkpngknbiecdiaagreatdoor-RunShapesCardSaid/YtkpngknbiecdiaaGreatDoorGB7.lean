/- Texts of this seat, one behind the other: TensorTwo, Fix. -/
import Derived.Laws.ShiftsVar
import Derived.Laws.ShiftsVarLaws
import Derived.Test.YtkpngknbiecdiaaGreatDoorGB1
import Derived.Test.YtkpngknbiecdiaaGreatDoorGB3
import Derived.Test.YtkpngknbiecdiaaGreatDoorGB5
import Derived.Test.YtkpngknbiecdiaaGreatDoorGB6
section
namespace Go.Proofs.YtkpngknbiecdiaaGreatDoor.CTensor
open Go Go.ChangeShapes Go.WideShapes Go.ChangeAt Go.RowKit
open Plain CSat CShape
set_option linter.unusedVariables false
def FreshT (B:Nat) (wd:World):Prop :=
 (wd.cell? ⟨B,0,none⟩=some (.int .i64 0)∧wd.cell? ⟨B,1,none⟩=some (.int .i64 0)∧wd.cell? ⟨B,2,none⟩=some (.int .i64 0)∧wd.cell? ⟨B,3,none⟩=some (.slice none 0 0)) ∧
 wd.frozen? ⟨B,0,none⟩=false∧wd.frozen? ⟨B,1,none⟩=false∧wd.frozen? ⟨B,2,none⟩=false∧wd.frozen? ⟨B,3,none⟩=false
theorem FreshT.new (T:TypeId) (w:World) (B:Nat) (hB:B=w.heap.size):FreshT B (w.alloc (.cells #[.int .i64 0,.int .i64 0,.int .i64 0,.slice none 0 0] T)):=by
 subst hB
 exact⟨⟨Kit.new_cell _ _ _ _,Kit.new_cell _ _ _ _,Kit.new_cell _ _ _ _,Kit.new_cell _ _ _ _⟩,World.frozen?_alloc_at _ _ _ _ rfl,World.frozen?_alloc_at _ _ _ _ rfl,World.frozen?_alloc_at _ _ _ _ rfl,World.frozen?_alloc_at _ _ _ _ rfl⟩
theorem FreshT.below {B B':Nat} {w w':World} (h:FreshT B w) (hB:B < B') (hb:Below B' w w'):FreshT B w':=by
 obtain⟨⟨h1,h2,h3,h4⟩,h5,h6,h7,h8⟩:=h
 exact⟨⟨(hb.cell (p:=⟨B,0,none⟩) hB).trans h1,(hb.cell (p:=⟨B,1,none⟩) hB).trans h2,(hb.cell (p:=⟨B,2,none⟩) hB).trans h3,(hb.cell (p:=⟨B,3,none⟩) hB).trans h4⟩,
  (hb.frozen (p:=⟨B,0,none⟩) hB).trans h5,(hb.frozen (p:=⟨B,1,none⟩) hB).trans h6,(hb.frozen (p:=⟨B,2,none⟩) hB).trans h7,(hb.frozen (p:=⟨B,3,none⟩) hB).trans h8⟩
theorem range_4 {w:World} {b:Nat} {x y z u:Value} (h0:w.cell? ⟨b,0,none⟩=some x) (h1:w.cell? ⟨b,1,none⟩=some y) (h2:w.cell? ⟨b,2,none⟩=some z) (h3:w.cell? ⟨b,3,none⟩=some u):w.rangeAt b 0 [x,y,z,u]:=by
 intro j v hj
 match j,hj with
 | 0,hj=>simpa [← hj] using h0
 | 1,hj=>simpa [← hj] using h1
 | 2,hj=>simpa [← hj] using h2
 | 3,hj=>simpa [← hj] using h3
theorem BoxAt.stores {B B2:Nat} {H W C:Int} {A:Option Addr} {n c:Nat} {w:World} (h:BoxAt B H W C A n c w) (hne:B≠B2) (a b d e:Value) :
  BoxAt B H W C A n c ((((w.setCell ⟨B2,0,none⟩ a).setCell ⟨B2,1,none⟩ b).setCell ⟨B2,2,none⟩ d).setCell ⟨B2,3,none⟩ e):=by
 have k:∀ i j (v:Value) (wd:World),(wd.setCell ⟨B2,j,none⟩ v).cell? ⟨B,i,none⟩=wd.cell? ⟨B,i,none⟩:=fun i j v wd=>World.cell?_setCell_other _ _ _ _ (fun e=>hne (congrArg Addr.block e).symm)
 unfold BoxAt
 simp only [k]
 exact h
theorem own_set {w:World} {base:Nat} {e:TypeId} {size n:Nat} {v:Value} {xs:List Value} (h:w.ownsRow base e size v n xs) (a:Addr) (u:Value) (ha:a.block < base):(w.setCell a u).ownsRow base e size v n xs:=by
 refine h.kept (row:=some a.block) ⟨rfl,rfl,rfl,by simp,fun k _ hk=>Below.heap_setCell _ _ _ k (fun e=>hk (by rw [e]))⟩ ?_
 cases hv:v.ownBlock with
 | none=>exact .inl rfl
 | some q=>exact .inr (fun e=>by have:=Kit.own_block_ge h q hv;cases e;omega)
def Cloned (w:World) (H W C:Int) (n:Nat) (zs:List Int) (e:Ending) (w':World):Prop :=
 ∃ v,e=.returned (.agg #[.int .i64 H,.int .i64 W,.int .i64 C,v])∧w'.ownsRow w.heap.size 22 1 v n (I8s zs)∧Below w.heap.size w w'
theorem clone_to (H W C:Int) (A:Option Addr) (zs:List Int) (n c:Nat) (hn:zs.length=n) (hl:n≤1000000) {B:Nat} (w:World) (hB:B≤w.heap.size) (hr:Kit.Rd w B A (zs.map (.int .i8))) :
  Calls Tryz.prog 111 #[.agg #[.int .i64 H,.int .i64 W,.int .i64 C,.slice A n c]] w (Cloned w H W C n zs):=by
 have HN:=Lib.hid hn
 have HR:=Lib.hid hr
 clear hn hr
 go_enter Tryz.func111,Tryz.ntmps111
 go_wp2_with fail
 have hbox:BoxAt w.heap.size H W C A n c ((w.alloc (.cells #[.int .i64 H,.int .i64 W,.int .i64 C,.slice A n c] 32)).alloc (.cells #[.int .i64 0,.int .i64 0,.int .i64 0,.slice none 0 0] 32)).drew :=
  (BoxAt.new H W C A n c 32 w).below (Nat.lt_succ_self _) (((Below.refl _ _).alloc (by simp) _))
 have HFR:Hid (FreshT (w.heap.size+1) ((w.alloc (.cells #[.int .i64 H,.int .i64 W,.int .i64 C,.slice A n c] 32)).alloc (.cells #[.int .i64 0,.int .i64 0,.int .i64 0,.slice none 0 0] 32)).drew):=Lib.hid (FreshT.new _ _ _ (by simp))
 refine wp_region_held_drew (S:=BoxAt w.heap.size H W C A n c) (by kernel_rfl) hbox (fun hHeld=>?_)
 refine Tk.y 0 (v:=?_) rfl ?_ ?_
 rotate_left
 ·intro wS hSw
  obtain⟨s1,s2,s3,s4⟩:=hSw
  first | (go_simp;done) | (go_simp;with_reducible rfl)
 try simp only [Tk.put]
 refine Tk.y 1 (v:=?_) rfl ?_ ?_
 rotate_left
 ·intro wS hSw
  obtain⟨s1,s2,s3,s4⟩:=hSw
  first | (go_simp;done) | (go_simp;with_reducible rfl)
 try simp only [Tk.put]
 refine Tk.y 2 (v:=?_) rfl ?_ ?_
 rotate_left
 ·intro wS hSw
  obtain⟨s1,s2,s3,s4⟩:=hSw
  first | (go_simp;done) | (go_simp;with_reducible rfl)
 try simp only [Tk.put]
 refine Tk.y 3 (v:=?_) rfl ?_ ?_
 rotate_left
 ·intro wS hSw
  obtain⟨s1,s2,s3,s4⟩:=hSw
  first | (go_simp;done) | (go_simp;with_reducible rfl)
 try simp only [Tk.put]
 refine Tk.s 4 rfl (fun K hK=>?_)
 go_simp
 go_at_call 143
 refine (sclone A zs n c HN.out hl (B:=B) _ (by simp;omega) (((HR.out.alloc hB _).alloc (by simp;omega) _).drew)).mono ?_
 rintro e w1 ⟨v1,rfl,ho1,hb1⟩
 have hS1:=hHeld.below (by first | (simp;done) | (simp;omega)) hb1
 obtain⟨⟨z0,z1,z2,z3⟩,z4,z5,z6,z7⟩:=HFR.out.below (by first | (simp;done) | (simp;omega)) hb1
 obtain⟨A1,c1,rfl,_,_,_⟩:=Kit.own_rd ho1
 have HO:=Lib.hid ho1
 have HB1:=Lib.hid hb1
 clear ho1 hb1 hHeld
 dsimp only
 refine hK.out _ _ ?_ (fun hHeld=>?_)
 ·exact hS1
 clear hK K
 try simp only [Tk.put]
 refine Tk.x 5 rfl ?_
 try simp only [Tk.put]
 refine Tk.s 6 rfl (fun K hK=>?_)
 go_simp
 refine hK.out _ _ ?_ (fun hHeld=>?_)
 ·exact hHeld.stores (by omega) _ _ _ _
 clear hK K
 try simp only [Tk.put]
 refine wpAnyH_done (by kernel_rfl) ?_ _
 go_wp2_with fail
 refine bodyPost_ret (Kit.results_c rfl _ _ (w.heap.size+1) 0 [.int .i64 H,.int .i64 W,.int .i64 C,.slice A1 n c1] _ rfl (range_4 (by go_cell) (by go_cell) (by go_cell) (by go_cell)) Tryz.underlying32 rfl (by kernel_rfl)) rfl ?_
 have hz:w.heap.size+2≤w1.heap.size:=by have:=HB1.out.size;simp at this;omega
 refine⟨_,rfl,Kit.own_base (own_set (own_set (own_set (own_set HO.out _ _ ?_) _ _ ?_) _ _ ?_) _ _ ?_) ?_,?_⟩
 any_goals (first | (simp;done) | (simp;omega))
 exact (((((((Below.refl w.heap.size w).alloc (Nat.le_refl _) _).alloc (by simp) _).drew).trans (HB1.out.mono (by simp;omega))).setCell (p:=⟨w.heap.size+1,0,none⟩) (by simp) _).setCell (p:=⟨w.heap.size+1,1,none⟩) (by simp) _ |>.setCell (p:=⟨w.heap.size+1,2,none⟩) (by simp) _).setCell (p:=⟨w.heap.size+1,3,none⟩) (by simp) _
end Go.Proofs.YtkpngknbiecdiaaGreatDoor.CTensor
end
section
namespace Go.Proofs.YtkpngknbiecdiaaGreatDoor.CFix
open Go Go.ChangeShapes Go.WideShapes Go.ChangeAt Go.RowKit
open Plain CSat
set_option linter.unusedVariables false
def roundZ (v:Int) (s:Nat):Int :=
 if v < 0 then -(((v.natAbs+2 ^ s / 2) / 2 ^ s:Nat):Int) else (((v.natAbs+2 ^ s / 2) / 2 ^ s:Nat):Int)
theorem right_yes (s:Int) (h1:0≤s) (h2:s≤62) (w:World) :
  Calls Tryz.prog 99 #[.int .i64 s] w fun e w'=>e=.returned (.bool true)∧w=w':=by
 go_enter Tryz.func99,Tryz.ntmps99
 go_wp2
 go_ret
 exact⟨rfl,rfl⟩
theorem right_no (s:Int) (h:s < 0∨62 < s) (w:World) :
  Calls Tryz.prog 99 #[.int .i64 s] w fun e w'=>e=.returned (.bool false)∧w=w':=by
 rcases h with h | h
 ·go_enter Tryz.func99,Tryz.ntmps99
  go_wp2
  go_ret
  exact⟨rfl,rfl⟩
 ·by_cases h0:0≤s
  ·have hd:decide (s≤62)=false:=by simp;omega
   go_enter Tryz.func99,Tryz.ntmps99
   go_wp2
   go_ret
   exact⟨rfl,rfl⟩
  ·go_enter Tryz.func99,Tryz.ntmps99
   go_wp2
   go_ret
   exact⟨rfl,rfl⟩
theorem pow_bd (s:Nat) (h:s≤62):∃ p:Nat,2 ^ s=p∧1≤p∧p≤4611686018427387904∧((2:Int) ^ s=(p:Int)):=by
 refine⟨2 ^ s,rfl,Nat.one_le_two_pow,?_,by simp⟩
 exact Nat.pow_le_pow_right (by omega) h
theorem round_size (n p:Nat) (hp:1≤p) (hp2:p≤4611686018427387904) (hn:n≤9223372036854775808) :
  (n+p / 2) / p≤9223372036854775808∧(n≤9223372036854775807→(n+p / 2) / p≤9223372036854775807):=by
 have h1:(n+p / 2) / p≤n:=by
  rcases Nat.lt_or_ge 1 p with h | h
  ·rcases Nat.eq_zero_or_pos n with h0 | h0
   ·subst h0;rw [Nat.zero_add];rw [Nat.div_eq_of_lt (by omega)];omega
   ·apply Nat.div_le_of_le_mul
    have:p * 1≤p * n:=Nat.mul_le_mul_left p h0
    have h2:2 * n≤p * n:=Nat.mul_le_mul_right n h
    omega
  ·have:p=1:=by omega
   subst this;simp
 omega
theorem div_back (x:Int) (n p q:Nat) (hq:q=(n+p / 2) / p) (h:x=(n:Int)):(x+(p:Int) / 2) / (p:Int)=(q:Int):=by
 subst hq h;simp
theorem neg_q (q:Nat) (h:q≤9223372036854775808):wrap64 (-wrap64 (q:Int)) = -(q:Int):=by unfold wrap64;omega
theorem round_yes (v:Int) (s:Nat) (h:s≤62) (hv1 : -9223372036854775808≤v) (hv2:v≤9223372036854775807) (w:World) :
  Calls Tryz.prog 151 #[.int .i64 v,.int .i64 (s:Int)] w fun e w'=>e=.returned (.int .i64 (roundZ v s))∧w=w':=by
 obtain⟨p,hp,hp1,hp2,hpi⟩:=pow_bd s h
 obtain⟨q,hq⟩:∃ q,q=(v.natAbs+p / 2) / p:=⟨_,rfl⟩
 have hqs:=round_size v.natAbs p hp1 hp2 (by omega)
 rw [← hq] at hqs
 obtain⟨hq1,hq2⟩:=hqs
 by_cases hn:v < 0
 ·have hr:roundZ v s = -(q:Int):=by unfold roundZ;rw [if_pos hn,hp,hq]
  rw [hr]
  have hx:IntKind.u64.wrap v=v+18446744073709551616:=by rw [IntKind.wrap_u64];omega
  have hy:IntKind.u64.wrap (-(v+18446744073709551616)) = -v:=by rw [IntKind.wrap_u64];omega
  have hz:(-v+(p:Int) / 2) / (p:Int)=(q:Int):=div_back _ _ _ _ hq (by omega)
  clear hr hq2 hp hq
  go_enter Tryz.func151,Tryz.ntmps151
  go_wp2_with (go_at_call 99;refine (right_yes _ (by omega) (by omega) _).mono ?_;rintro e w' ⟨rfl,rfl⟩)
  refine Kit.wp_scope_once 0 rfl ?_
  go_wp2_with (go_at_call 99;refine (right_yes _ (by omega) (by omega) _).mono ?_;rintro e w' ⟨rfl,rfl⟩)
  go_step3
  refine⟨rfl,?_⟩
  go_wp2
  rw [Exit.noGoto_ret]
  go_ret
  exact⟨ret_int (neg_q q hq1),rfl⟩
 ·have hr:roundZ v s=(q:Int):=by unfold roundZ;rw [if_neg hn,hp,hq]
  rw [hr]
  have hz:(v+(p:Int) / 2) / (p:Int)=(q:Int):=div_back _ _ _ _ hq (by omega)
  have hq3:=hq2 (by omega)
  clear hr hq2 hp hq
  go_enter Tryz.func151,Tryz.ntmps151
  go_wp2_with (go_at_call 99;refine (right_yes _ (by omega) (by omega) _).mono ?_;rintro e w' ⟨rfl,rfl⟩)
  go_step3
  go_wp2_with (go_at_call 99;refine (right_yes _ (by omega) (by omega) _).mono ?_;rintro e w' ⟨rfl,rfl⟩)
  go_step3
  go_wp2
  rw [Exit.noGoto_ret]
  go_ret
  exact⟨rfl,rfl⟩
theorem round_abs (v:Int) (s:Nat) (h:s≤62) (hv1 : -9223372036854775808≤v) (hv2:v≤9223372036854775807):(roundZ v s).natAbs≤v.natAbs:=by
 obtain⟨p,hp,hp1,hp2,hpi⟩:=pow_bd s h
 have h1:(v.natAbs+p / 2) / p≤v.natAbs:=by
  rcases Nat.lt_or_ge 1 p with h | h
  ·rcases Nat.eq_zero_or_pos v.natAbs with h0 | h0
   ·rw [h0,Nat.zero_add,Nat.div_eq_of_lt (by omega)];omega
   ·apply Nat.div_le_of_le_mul
    have:p * 1≤p * v.natAbs:=Nat.mul_le_mul_left p h0
    have h2:2 * v.natAbs≤p * v.natAbs:=Nat.mul_le_mul_right _ h
    omega
  ·have:p=1:=by omega
   subst this;simp
 unfold roundZ
 rw [hp]
 generalize (v.natAbs+p / 2) / p=t at *
 split <;> omega
theorem scale_yes (a m:Int) (s:Nat) (h:s≤62) (ha1 : -2147483648≤a) (ha2:a≤2147483647) (hm1 : -2147483648≤m) (hm2:m≤2147483647) (w:World) :
  Calls Tryz.prog 139 #[.int .i32 a,.int .i32 m,.int .i64 (s:Int)] w fun e w'=>e=.returned (.int .i64 (roundZ (a * m) s))∧w=w':=by
 obtain⟨h1,h2⟩:=mul_bd a m ha1 ha2 hm1 hm2
 go_enter Tryz.func139,Tryz.ntmps139
 go_wp2_with (go_at_call 151;refine (round_yes _ s h (by omega) (by omega) _).mono ?_;rintro e w' ⟨rfl,rfl⟩)
 go_ret
 exact⟨rfl,rfl⟩
theorem scale_to (a m:Int) (s:Nat) (t:Int) (h:s≤62) (ha1 : -2147483648≤a) (ha2:a≤2147483647) (hm1 : -2147483648≤m) (hm2:m≤2147483647) (ht:roundZ (a * m) s=t) (w:World) :
  Calls Tryz.prog 139 #[.int .i32 a,.int .i32 m,.int .i64 (s:Int)] w fun e w'=>e=.returned (.int .i64 t)∧w=w':=ht ▸ scale_yes a m s h ha1 ha2 hm1 hm2 w
def rightB (m s:Int):Bool:=decide (0 < m∧0≤s∧s≤62)
theorem isRight_yes (m s z:Int) (h:rightB m s=true) (w:World) :
  Calls Tryz.prog 50 #[.agg #[.int .i32 m,.int .i64 s,.int .i8 z]] w fun e w'=>e=.returned (.bool true)∧Below w.heap.size w w':=by
 obtain⟨h1,h2,h3⟩:0 < m∧0≤s∧s≤62:=by simpa [rightB] using h
 clear h
 go_enter Tryz.func50,Tryz.ntmps50
 go_wp2_with (go_at_call 99;refine (right_yes _ (by omega) (by omega) _).mono ?_;rintro e w' ⟨rfl,rfl⟩)
 go_ret
 exact⟨rfl,(Below.refl _ _).alloc (Nat.le_refl _) _⟩
theorem isRight_no (m s z:Int) (h:rightB m s=false) (w:World) :
  Calls Tryz.prog 50 #[.agg #[.int .i32 m,.int .i64 s,.int .i8 z]] w fun e w'=>e=.returned (.bool false)∧Below w.heap.size w w':=by
 have h0:¬ (0 < m∧0≤s∧s≤62):=by simpa [rightB] using h
 clear h
 by_cases h1:0 < m
 ·have h2:s < 0∨62 < s:=by omega
  clear h0
  go_enter Tryz.func50,Tryz.ntmps50
  go_wp2_with (go_at_call 99;refine (right_no _ h2 _).mono ?_;rintro e w' ⟨rfl,rfl⟩)
  go_ret
  exact⟨rfl,(Below.refl _ _).alloc (Nat.le_refl _) _⟩
 ·have hd:decide (0 < m)=false:=by simpa using h1
  clear h0
  go_enter Tryz.func50,Tryz.ntmps50
  go_wp2_with fail
  go_ret
  exact⟨rfl,(Below.refl _ _).alloc (Nat.le_refl _) _⟩
def heldZ (a m s z lo hi:Int):Int:=if rightB m s then clampZ (roundZ (a * m) s.toNat+z) lo hi else 0
theorem held (a m s z lo hi:Int) (ha1 : -2147483648≤a) (ha2:a≤2147483647) (hm1 : -2147483648≤m) (hm2:m≤2147483647) (hz1 : -128≤z) (hz2:z≤127)
  (hl1 : -128≤lo) (hl2:lo≤127) (hh1 : -128≤hi) (hh2:hi≤127) (w:World) :
  Calls Tryz.prog 107 #[.int .i32 a,.agg #[.int .i32 m,.int .i64 s,.int .i8 z],.int .i8 lo,.int .i8 hi] w fun e w'=>e=.returned (.int .i8 (heldZ a m s z lo hi))∧Below w.heap.size w w':=by
 obtain⟨h1,h2⟩:=mul_bd a m ha1 ha2 hm1 hm2
 cases hr:rightB m s
 ·have hv:heldZ a m s z lo hi=0:=by unfold heldZ;rw [hr];rfl
  rw [hv]
  have HR:=Lib.hid hr
  clear hr hv
  go_enter Tryz.func107,Tryz.ntmps107
  go_wp2_with (go_at_call 50;refine (isRight_no _ _ _ HR.out _).mono ?_;rintro e w1 ⟨rfl,hb⟩;obtain⟨hc,hf⟩:=Kit.bcell hb)
  go_ret
  exact⟨rfl,((Below.refl _ _).alloc (Nat.le_refl _) _).trans (hb.mono (by simp))⟩
 ·obtain⟨h3,h4,h5⟩:0 < m∧0≤s∧s≤62:=by simpa [rightB] using hr
  obtain⟨n,rfl⟩:=Int.eq_ofNat_of_zero_le h4
  have hv:heldZ a m n z lo hi=clampZ (roundZ (a * m) n+z) lo hi:=by unfold heldZ;rw [hr];rfl
  rw [hv]
  have hn:n≤62:=by omega
  have hra:=round_abs (a * m) n hn (by omega) (by omega)
  obtain⟨t,ht⟩:∃ t,roundZ (a * m) n=t:=⟨_,rfl⟩
  rw [ht] at hra
  rw [ht]
  have ht1 : -4611686018427387904≤t:=by omega
  have ht2:t≤4611686018427387904:=by omega
  have HR:=Lib.hid hr
  have HT:=Lib.hid ht
  clear hr hv ht hra
  go_enter Tryz.func107,Tryz.ntmps107
  go_wp2_with (go_at_call 50;refine (isRight_yes _ _ _ HR.out _).mono ?_;rintro e w1 ⟨rfl,hb⟩;obtain⟨hc,hf⟩:=Kit.bcell hb)
  go_quiet ((first
   | (go_at_call 139;exact Kit.quiet_l (scale_to _ _ _ t hn ha1 ha2 hm1 hm2 HT.out _))
   | (go_at_call 140;exact Kit.quiet_l (clamp _ _ _ (by omega) (by omega) (by omega) (by omega) _))))
  go_wp2
  go_ret
  exact⟨rfl,Kit.below_drewN (((Below.refl _ _).alloc (Nat.le_refl _) _).trans (hb.mono (by simp))) _⟩
end Go.Proofs.YtkpngknbiecdiaaGreatDoor.CFix
end
