/- -/
import Derived.Test.YtchpdhhpkljdhaaGreatDoorGD10
import Derived.Test.YtchpdhhpkljdhaaGreatDoorGD11
open Go.Value renaming int→Jj
open Go.IntKind renaming i64→Jq
open Go.Lib (hid)
open Nat (le_refl lt_of_succ_lt lt_succ_self)
set_option linter.unusedVariables false
set_option linter.unusedSimpArgs false
set_option maxRecDepth 100000
set_option maxHeartbeats 16000000
namespace Go.Proofs.YtchpdhhpkljdhaaGreatDoor
namespace CConv
end CConv
namespace CKind
end CKind
namespace CSat
end CSat
namespace CWheel
end CWheel
open Go Go.ChangeShapes Go.WideShapes Go.ChangeAt Go.RowKit Go.Deep
section
namespace CSat
open Go Go.ChangeShapes Go.WideShapes Go.ChangeAt Go.RowKit
open Plain
theorem refHeld (v lo hi:Int) (w:World) :
  Calls Tryz.prog 114 #[Jj Jq v,Jj Jq lo,Jj Jq hi] w fun e w'=>e=.returned (Jj Jq (zcd v lo hi))∧w=w':=by
 by_cases h1:v < lo
 ·go_enter Tryz.func114,Tryz.ntmps114
  exact Z2o
 ·by_cases h2:v > hi
  ·go_enter Tryz.func114,Tryz.ntmps114
   exact Z2e
  ·go_enter Tryz.func114,Tryz.ntmps114
   exact Z2f
end CSat
end
section
namespace CFix
open Go Go.ChangeShapes Go.WideShapes Go.ChangeAt Go.RowKit
open Plain CSat
theorem pow_even (s p:Nat) (h:2 ^ s=p) (h1:1 < p):2 * (p / 2)=p:=by
 cases s with
 | zero=>simp at h;omega
 | succ s=>rw [Nat.pow_succ] at h;omega
theorem round_parts (v:Int) (s p:Nat) (h:2 ^ s=p) (h1:1≤p):∃ Q R:Nat,R < p∧Q≤v.natAbs∧(1 < p→2 * Q≤v.natAbs) ∧
  (0≤v→v.tdiv (p:Int)=Q∧v.tmod (p:Int)=R)∧(v < 0→v.tdiv (p:Int) = -(Q:Int)∧v.tmod (p:Int) = -(R:Int)) ∧
  (p≤2 * R∧1 < p→zbo v s=if v < 0 then -(Q:Int) - 1 else (Q:Int)+1)∧(¬ (p≤2 * R∧1 < p)→zbo v s=if v < 0 then -(Q:Int) else (Q:Int)):=by
 refine⟨v.natAbs / p,v.natAbs % p,Nat.mod_lt _ Zb3,Nat.div_le_self _ _,?_,?_,?_,?_,?_⟩
 ·intro h2
  have hd:=Nat.div_add_mod v.natAbs p
  have:2 * (v.natAbs / p)≤p * (v.natAbs / p):=Nat.mul_le_mul_right _ h2
  omega
 ·intro h0
  obtain⟨n,rfl⟩:=Int.eq_ofNat_of_zero_le h0
  exact⟨by simp,by rw [Int.tmod_eq_emod_of_nonneg Zb3];simp⟩
 ·intro h0
  have e:v = -(v.natAbs:Int):=by omega
  generalize v.natAbs=n at e
  subst e
  rw [Int.neg_tdiv,Int.neg_tmod,Int.tmod_eq_emod_of_nonneg Zb3]
  simp
 ·rintro⟨h2,h3⟩
  have he:=pow_even s p h h3
  have hm:=Nat.mod_lt v.natAbs (show 0 < p by omega)
  have hd:=Nat.div_add_mod v.natAbs p
  have hx:(v.natAbs+p / 2) / p=v.natAbs / p+1:=by
   rw [Nat.div_eq_iff Zb3]
   have:(v.natAbs / p+1) * p=p * (v.natAbs / p)+p:=by rw [Nat.add_mul,Nat.one_mul,Nat.mul_comm]
   omega
  unfold zbo
  rw [h,hx]
  split <;> omega
 ·intro h2
  have hx:(v.natAbs+p / 2) / p=v.natAbs / p:=by
   have hm:=Nat.mod_lt v.natAbs (show 0 < p by omega)
   have hd:=Nat.div_add_mod v.natAbs p
   rw [Nat.div_eq_iff Zb3]
   have:(v.natAbs / p) * p=p * (v.natAbs / p):=Nat.mul_comm _ _
   omega
  unfold zbo
  rw [h,hx]
theorem refRound_yes (v:Int) (s:Nat) (h:s≤62) (hv1 : -9223372036854775808≤v) (hv2:v≤9223372036854775807) (w:World) :
  Calls Tryz.prog 113 #[Jj Jq v,Jj Jq (s:Int)] w fun e w'=>e=.returned (Jj Jq (zbo v s))∧∃ m,w'=w.drewN m:=by
 have d1:decide ((s:Int) < 0)=false:=by simp
 have d2:decide (62 < (s:Int))=false:=by simp;omega
 go_enter Tryz.func113,Tryz.ntmps113
 go_wp2
 go_loop [5,6] (fun t i=>∃ k p:Nat,k≤s∧i=Jj Jq k∧t=Jj Jq (p:Int)∧1≤p∧p≤4611686018427387904∧Hid (2 ^ k=p)) (fun _ i=>s - (intOf i).toNat)
 case atStart=>exact⟨0,1,Nat.zero_le _,rfl,rfl,by omega,by omega,rfl⟩
 case round =>
  obtain⟨k,p,hk,rfl,rfl,hp1,hp2,hp⟩:=hrel
  by_cases hlt:k < s
  ·have hb:p * 2≤4611686018427387904:=by
    have e:2 ^ (k+1)=p * 2:=by rw [Nat.pow_succ,hp.out]
    rw [← e]
    exact Nat.pow_le_pow_right Zb3 (show k+1≤62 by omega)
   go_wp2
   go_round
   case rel=>exact⟨k+1,p * 2,by omega,by go_num,by go_num,by omega,by omega,hid (show 2 ^ (k+1)=p * 2 by rw [Nat.pow_succ,hp.out])⟩
   case measure=>simp [intOf];omega
  ·have hks:k=s:=by omega
   subst hks
   obtain⟨Q,R,hR,hQ,g0,g1,g2,g3,g4⟩:=round_parts v k p hp.out hp1
   have hQ2:Q≤9223372036854775808:=by omega
   by_cases hn:v < 0
   ·obtain⟨e1,e2⟩:=g2 hn
    by_cases ht:p≤2 * R∧1 < p
    ·have e3:=g3 ht
     rw [if_pos hn] at e3
     have E3:=hid e3
     obtain⟨ht1,ht2⟩:=ht
     have g5:=g0 ht2
     have e4:IntKind.i64.wrap (-(Q:Int)) = -(Q:Int):=IntWalk.i64_in _ Zb3
     exact Z1s
    ·have e3:=g4 ht
     rw [if_pos hn] at e3
     have E3:=hid e3
     have e4:IntKind.i64.wrap (-(Q:Int)) = -(Q:Int):=IntWalk.i64_in _ Zb3
     exact Z1s
   ·obtain⟨e1,e2⟩:=g1 Zb3
    by_cases ht:p≤2 * R∧1 < p
    ·have e3:=g3 ht
     rw [if_neg hn] at e3
     have E3:=hid e3
     obtain⟨ht1,ht2⟩:=ht
     have g5:=g0 ht2
     have e4:IntKind.i64.wrap ((Q:Int))=(Q:Int):=IntWalk.i64_in _ Zb3
     exact Z1s
    ·have e3:=g4 ht
     rw [if_neg hn] at e3
     have E3:=hid e3
     have e4:IntKind.i64.wrap ((Q:Int))=(Q:Int):=IntWalk.i64_in _ Zb3
     exact Z1s
theorem zcm (m s z:Int) (h:zau m s=true) (w:World) :
  Calls Tryz.prog 64 #[.agg #[.int .i32 m,Jj Jq s,.int .i8 z]] w fun e w'=>e=.returned (.bool true)∧Below w.heap.size w w':=by
 obtain⟨h1,h2,h3⟩:0 < m∧0≤s∧s≤62:=by simpa [zau] using h
 clear h
 go_enter Tryz.func64,Tryz.ntmps64
 go_wp2
 exact Z1a
theorem zdg (m s z:Int) (h:zau m s=false) (w:World) :
  Calls Tryz.prog 64 #[.agg #[.int .i32 m,Jj Jq s,.int .i8 z]] w fun e w'=>e=.returned (.bool false)∧Below w.heap.size w w':=by
 have h0:¬ (0 < m∧0≤s∧s≤62):=by simpa [zau] using h
 clear h
 have h1:(decide (0 < m)=false)∨(0 < m∧decide (0≤s)=false)∨(0 < m∧0≤s∧decide (s≤62)=false):=by simp;omega
 clear h0
 rcases h1 with h1 | ⟨h1,h2⟩ | ⟨h1,h2,h3⟩
 all_goals
  go_enter Tryz.func64,Tryz.ntmps64
  go_wp2
  exact Z1a
theorem refRound_to (v:Int) (s:Nat) (t:Int) (h:s≤62) (hv1 : -9223372036854775808≤v) (hv2:v≤9223372036854775807) (ht:zbo v s=t) (w:World) :
  Calls Tryz.prog 113 #[Jj Jq v,Jj Jq (s:Int)] w fun e w'=>e=.returned (Jj Jq t)∧∃ m,w'=w.drewN m:=ht ▸ refRound_yes v s h hv1 hv2 w
theorem refHeld_to (v lo hi r:Int) (h:zcd v lo hi=r) (w:World) :
  Calls Tryz.prog 114 #[Jj Jq v,Jj Jq lo,Jj Jq hi] w fun e w'=>e=.returned (Jj Jq r)∧w=w':=h ▸ CSat.refHeld v lo hi w
theorem refHeldQ (a m s z lo hi:Int) (ha1 : -2147483648≤a) (ha2:a≤2147483647) (hm1 : -2147483648≤m) (hm2:m≤2147483647) (hz1 : -128≤z) (hz2:z≤127)
  (hl1 : -128≤lo) (hl2:lo≤127) (hh1 : -128≤hi) (hh2:hi≤127) (w:World) :
  Calls Tryz.prog 115 #[.int .i32 a,.agg #[.int .i32 m,Jj Jq s,.int .i8 z],.int .i8 lo,.int .i8 hi] w fun e w'=>e=.returned (.int .i8 (heldZ a m s z lo hi))∧Below w.heap.size w w':=by
 obtain⟨h1,h2⟩:=mul_bd a m ha1 ha2 hm1 hm2
 cases hr:zau m s
 ·have hv:heldZ a m s z lo hi=0:=by unfold heldZ;rw [hr];rfl
  rw [hv]
  have HR:=hid hr
  clear hr hv
  go_enter Tryz.func115,Tryz.ntmps115
  go_wp2_with (go_at_call 64;refine (zdg _ _ _ HR.out _).mono ?_;rintro e w1 ⟨rfl,hb⟩;obtain⟨hc,hf⟩:=Kit.bcell hb)
  go_ret
  exact⟨rfl,((Below.refl _ _).alloc (le_refl _) _).trans (hb.mono Zb7)⟩
 ·obtain⟨h3,h4,h5⟩:0 < m∧0≤s∧s≤62:=by simpa [zau] using hr
  obtain⟨n,rfl⟩:=Int.eq_ofNat_of_zero_le h4
  have hv:heldZ a m n z lo hi=zcd (zbo (a * m) n+z) lo hi:=by unfold heldZ;rw [hr];rfl
  rw [hv]
  have hn:n≤62:=by omega
  have hra:=round_abs (a * m) n hn Zb3 Zb3
  obtain⟨t,ht⟩:∃ t,zbo (a * m) n=t:=⟨_,rfl⟩
  rw [ht] at hra
  rw [ht]
  have ht1 : -4611686018427387904≤t:=by omega
  have ht2:t≤4611686018427387904:=by omega
  obtain⟨c,hc0⟩:∃ c,zcd (t+z) lo hi=c:=⟨_,rfl⟩
  have hcb : -128≤c∧c≤127:=by subst hc0;unfold zcd;split <;> (try split) <;> omega
  obtain⟨hcb1,hcb2⟩:=hcb
  rw [hc0]
  have HR:=hid hr
  have HT:=hid ht
  have HC:=hid hc0
  clear hr hv ht hra hc0
  go_enter Tryz.func115,Tryz.ntmps115
  go_wp2_with (go_at_call 64;refine (zcm _ _ _ HR.out _).mono ?_;rintro e w1 ⟨rfl,hb⟩;obtain⟨hc,hf⟩:=Kit.bcell hb)
  go_quiet ((go_at_call 113;exact Calls.quiet_of (refRound_to _ _ t hn Zb3 Zb3 HT.out _)))
  go_wp2_with (go_at_call 114;refine (refHeld_to _ _ _ c HC.out _).mono ?_;rintro e w' ⟨rfl,rfl⟩)
  all_goals go_outline
  exact Z2t
end CFix
end
section
namespace CKind
open Plain CSat CShape CTensor CConv
theorem own_to (x:Nd) (h:1≤x.kd∧x.kd≤9) (w:World) :
  Calls Tryz.prog 40 #[.agg x.val] w fun e w'=>e=.returned (.agg (x.ownK x.kd).val)∧Below w.heap.size w w':=by
 have:x.kd=1∨x.kd=2∨x.kd=3∨x.kd=4∨x.kd=5∨x.kd=6∨x.kd=7∨x.kd=8∨x.kd=9:=by omega
 rcases this with h | h | h | h | h | h | h | h | h
 ·rw [h];exact own_1 x h w
 ·rw [h];exact own_2 x h w
 ·rw [h];exact own_3 x h w
 ·rw [h];exact own_4 x h w
 ·rw [h];exact own_5 x h w
 ·rw [h];exact own_6 x h w
 ·rw [h];exact own_7 x h w
 ·rw [h];exact own_8 x h w
 ·rw [h];exact own_9 x h w
end CKind
end
section
namespace CLane
open Go Go.ChangeShapes Go.WideShapes Go.ChangeAt Go.RowKit
open Plain CSat CShape CTensor CConv FloatNum CFour CWheel
abbrev I16w (zs:List Int):List Value:=zs.map (.int .i16)
theorem rd_block {w w':World} {g:Nat} {xs:List Value} (h:Kit.Rd w (g+1) (some ⟨g,0,none⟩) xs) (hb:w'.heap[g]?=w.heap[g]?):Kit.Rd w' (g+1) (some ⟨g,0,none⟩) xs:=fun j u hu=>by
 obtain⟨ad,e,hlt,hc⟩:=h j u hu
 refine⟨ad,e,hlt,?_⟩
 cases e
 have:((⟨g,0,none⟩:Addr).add j).block=g:=Kit.add_block _ _
 have hb':w'.heap[((⟨g,0,none⟩:Addr).add j).block]?=w.heap[((⟨g,0,none⟩:Addr).add j).block]?:=by rw [this];exact hb
 exact (World.cell?_of_block hb').trans hc
theorem grown_setCell (w:World) (p:Addr) (v:Value):w.grownBy (w.setCell p v) (some p.block) :=
 ⟨rfl,rfl,rfl,by simp,fun k _ hk=>Below.heap_setCell _ _ _ k (fun e=>hk (by rw [e]))⟩
def zbw (B0:Nat) (ok:Nat→Prop) (M:Nat) (v1 v2:Value) (vs:List Value) (rows:List (List Int)) (ps:List Int) (w:World):Prop :=
 vs.length=rows.length∧w.ownsRow B0 112 1 v1 rows.length vs∧w.ownsRow B0 3 1 v2 ps.length (I64v ps) ∧
 (∀ g,v1.ownBlock=some g→ok g∧v2.ownBlock≠some g)∧(∀ g,v2.ownBlock=some g→ok g) ∧
 ∀ (i:Nat) (row:List Int),rows[i]?=some row→∃ g,vs[i]?=some (.slice (some ⟨g,0,none⟩) M M)∧row.length=M∧ok g∧g < w.heap.size∧v1.ownBlock≠some g∧v2.ownBlock≠some g∧Kit.Rd w (g+1) (some ⟨g,0,none⟩) (I16w row)
def zbc (B0:Nat) (ok:Nat→Prop) (M:Nat) (v1 v2:Value) (rows:List (List Int)) (ps:List Int) (w:World):Prop:=∃ vs,zbw B0 ok M v1 v2 vs rows ps w
section
variable {B0:Nat} {ok:Nat→Prop} {M:Nat} {v1 v2:Value} {vs:List Value} {rows:List (List Int)} {ps:List Int} {w w':World}
theorem zbw.start (B0:Nat) (ok:Nat→Prop) (M:Nat) (w:World):zbw B0 ok M (.slice none 0 0) (.slice none 0 0) [] [] [] w:=by
 refine⟨rfl,own_nil _ _ _ _,own_nil _ _ _ _,fun g h=>?_,fun g h=>?_,fun i row h=>?_⟩
 ·exact absurd h (by simp [Value.ownBlock])
 ·exact absurd h (by simp [Value.ownBlock])
 ·simp at h
theorem zbw.grown (h:zbw B0 ok M v1 v2 vs rows ps w) {r:Option Nat} (hg:w.grownBy w' r) (h1:∀ g,r=some g→v1.ownBlock≠some g∧v2.ownBlock≠some g∧¬ (∃ (i:Nat),vs[i]?=some (.slice (some ⟨g,0,none⟩) M M))):zbw B0 ok M v1 v2 vs rows ps w':=by
 obtain⟨a,b,c,d,e,f⟩:=h
 have ne:∀ v:Value,(∀ g,r=some g→v.ownBlock≠some g)→v.ownBlock=none∨v.ownBlock≠r:=fun v hv=>by
  cases hr:r with
  | none=>cases hb:v.ownBlock with
    | none=>exact .inl rfl
    | some g=>exact .inr Zb7
  | some g=>exact .inr (hv g hr)
 refine⟨a,b.kept hg (ne v1 fun g hr=>(h1 g hr).1),c.kept hg (ne v2 fun g hr=>(h1 g hr).2.1),d,e,fun i row hi=>?_⟩
 obtain⟨g,f1,f2,f3,f4,f5,f6,f7⟩:=f i row hi
 exact⟨g,f1,f2,f3,Nat.lt_of_lt_of_le f4 hg.size,f5,f6,rd_block f7 (hg.block g f4 (fun e=>(h1 g e.symm).2.2 ⟨i,f1⟩))⟩
theorem zbw.below (h:zbw B0 ok M v1 v2 vs rows ps w) (hb:Below w.heap.size w w'):zbw B0 ok M v1 v2 vs rows ps w' :=
 h.grown (r:=none) ⟨hb.os,hb.tape,hb.output,hb.size,fun k hk _=>hb.block k hk⟩ (fun g e=>by cases e)
theorem zbw.set (h:zbw B0 ok M v1 v2 vs rows ps w) {p:Addr} (hp:¬ ok p.block) (v:Value):zbw B0 ok M v1 v2 vs rows ps (w.setCell p v):=by
 refine h.grown (grown_setCell w p v) (fun g e=>?_)
 obtain rfl:p.block=g:=Option.some.inj e
 refine⟨fun e1=>hp (h.2.2.2.1 _ e1).1,fun e2=>hp (h.2.2.2.2.1 _ e2),fun⟨i,hi⟩=>?_⟩
 have hlt:i < rows.length:=by rw [← h.1];exact (List.getElem?_eq_some_iff.1 hi).1
 obtain⟨g',f1,_,f3,_⟩:=h.2.2.2.2.2 i _ (List.getElem?_eq_getElem hlt)
 rw [hi] at f1
 simp at f1
 exact hp (f1 ▸ f3)
theorem zcc {e:TypeId} {size n:Nat} {v:Value} {xs:List Value} (h:w.ownsRow B0 e size v n xs) {g:Nat} (hg:v.ownBlock=some g):g < w.heap.size:=by
 rcases h.2 with ⟨rfl,_⟩ | ⟨g',cap,cur,rfl,_,hh,_⟩
 ·cases hg
 ·obtain rfl:g'=g:=Option.some.inj hg
  rcases Nat.lt_or_ge g' w.heap.size with h | h
  ·exact h
  ·rw [Array.getElem?_eq_none h] at hh;cases hh
theorem zbw.push1 (h:zbw B0 ok M v1 v2 vs rows ps w) {v1':Value} {gr:Nat} {row:List Int} (hl:row.length=M) (hok:ok gr) (hlt:gr < w.heap.size) (n1:v1.ownBlock≠some gr) (n2:v2.ownBlock≠some gr) (hrd:Kit.Rd w (gr+1) (some ⟨gr,0,none⟩) (I16w row))
  (ho:w'.ownsRow B0 112 1 v1' (rows.length+1) (vs ++ [.slice (some ⟨gr,0,none⟩) M M])) (hg:w.grownBy w' v1.ownBlock) (hat:v1'.ownBlock=v1.ownBlock∨v1'.ownBlock=some w.heap.size) (hos:ok w.heap.size) :
  zbw B0 ok M v1' v2 (vs ++ [.slice (some ⟨gr,0,none⟩) M M]) (rows ++ [row]) ps w':=by
 obtain⟨a,b,c,d,e,f⟩:=h
 have hv2:∀ g,v2.ownBlock=some g→g < w.heap.size:=fun g hg2=>zcc c hg2
 have hv2n:v2.ownBlock=none∨v2.ownBlock≠v1.ownBlock:=by
  cases hb:v1.ownBlock with
  | none=>cases hb2:v2.ownBlock with
    | none=>exact .inl rfl
    | some g=>exact .inr Zb7
  | some g=>exact .inr (d g hb).2
 have hne:∀ g,g < w.heap.size→v1.ownBlock≠some g→v1'.ownBlock≠some g:=fun g hlt2 h1 e1=>by
  exact Z33
 refine⟨by simp [a],by simpa using ho,c.kept hg hv2n,fun g hg1=>?_,e,fun i r hi=>?_⟩
 ·rcases hat with h2 | h2
  ·rw [h2] at hg1;exact d g hg1
  ·rw [h2] at hg1
   obtain rfl:w.heap.size=g:=Option.some.inj hg1
   exact⟨hos,fun e2=>absurd (hv2 _ e2) (Nat.lt_irrefl _)⟩
 ·rcases Nat.lt_or_ge i rows.length with hi2 | hi2
  ·rw [List.getElem?_append_left hi2] at hi
   obtain⟨g,f1,f2,f3,f4,f5,f6,f7⟩:=f i r hi
   exact⟨g,by rw [List.getElem?_append_left Zb3];exact f1,f2,f3,Nat.lt_of_lt_of_le f4 hg.size,hne g f4 f5,f6,rd_block f7 (hg.block g f4 (fun e=>f5 e.symm))⟩
  ·rw [List.getElem?_append_right hi2] at hi
   have hi3:i - rows.length=0:=by
    rcases Nat.lt_or_ge (i - rows.length) 1 with h8 | h8
    ·omega
    ·rw [List.getElem?_eq_none (by simpa using h8)] at hi;cases hi
   rw [hi3] at hi
   obtain rfl:row=r:=by simpa using hi
   exact⟨gr,by rw [List.getElem?_append_right Zb3,show i - vs.length=0 by omega];rfl,hl,hok,Nat.lt_of_lt_of_le hlt hg.size,hne gr hlt n1,n2,rd_block hrd (hg.block gr hlt (fun e=>n1 e.symm))⟩
theorem zbw.push2 (h:zbw B0 ok M v1 v2 vs rows ps w) {v2':Value} {p:Int}
  (ho:w'.ownsRow B0 3 1 v2' (ps.length+1) (I64v ps ++ [Jj Jq p])) (hg:w.grownBy w' v2.ownBlock) (hat:v2'.ownBlock=v2.ownBlock∨v2'.ownBlock=some w.heap.size) (hos:ok w.heap.size) :
  zbw B0 ok M v1 v2' vs rows (ps ++ [p]) w':=by
 obtain⟨a,b,c,d,e,f⟩:=h
 have hv1:∀ g,v1.ownBlock=some g→g < w.heap.size:=fun g hg2=>zcc b hg2
 have hv1n:v1.ownBlock=none∨v1.ownBlock≠v2.ownBlock:=by
  cases hb:v1.ownBlock with
  | none=>exact .inl rfl
  | some g=>exact .inr (fun e2=>(d g hb).2 e2.symm)
 have hne:∀ g,g < w.heap.size→v2.ownBlock≠some g→v2'.ownBlock≠some g:=fun g hlt2 h1 e1=>by
  exact Z33
 refine⟨a,b.kept hg hv1n,?_,fun g hg1=>⟨(d g hg1).1,hne g (hv1 g hg1) (d g hg1).2⟩,fun g hg1=>?_,fun i r hi=>?_⟩
 ·have e9:I64v (ps ++ [p])=I64v ps ++ [Jj Jq p]:=by show (ps ++ [p]).map _=_;rw [List.map_append];rfl
  rw [e9,List.length_append];exact ho
 ·rcases hat with h2 | h2
  ·rw [h2] at hg1;exact e g hg1
  ·rw [h2] at hg1
   obtain rfl:w.heap.size=g:=Option.some.inj hg1
   exact hos
 ·obtain⟨g,f1,f2,f3,f4,f5,f6,f7⟩:=f i r hi
  exact⟨g,f1,f2,f3,Nat.lt_of_lt_of_le f4 hg.size,f5,hne g f4 f6,rd_block f7 (hg.block g f4 (fun e=>f6 e.symm))⟩
theorem zbw.rowsAt (h:zbw B0 ok M v1 v2 vs rows ps w) (hM:M≤maxLen):∃ A c,v1=.slice A rows.length c∧rows.length≤c∧c≤maxLen∧Kit.zb4 w w.heap.size .i16 A rows:=by
 obtain⟨a,b,c,d,e,f⟩:=h
 obtain⟨A,cp,rfl,h1,h2,h3⟩:=Kit.zaj b
 refine⟨A,cp,rfl,h1,h2,vs,a,h3,fun i row hi=>?_⟩
 obtain⟨g,f1,f2,f3,f4,_,_,f7⟩:=f i row hi
 exact⟨_,M,M,f2,f1,le_refl _,hM,f7.more f4⟩
theorem zbw.weaken (h:zbw B0 ok M v1 v2 vs rows ps w) {ok':Nat→Prop} (hk:∀ g,g < w.heap.size→ok g→ok' g):zbw B0 ok' M v1 v2 vs rows ps w:=by
 obtain⟨a,b,c,d,e,f⟩:=h
 refine⟨a,b,c,fun g hg=>⟨hk g (zcc b hg) (d g hg).1,(d g hg).2⟩,fun g hg=>hk g (zcc c hg) (e g hg),fun i row hi=>?_⟩
 obtain⟨g,f1,f2,f3,f4,f5,f6,f7⟩:=f i row hi
 exact⟨g,f1,f2,hk g f4 f3,f4,f5,f6,f7⟩
end
end CLane
end
section
namespace CWheel
open Go Go.ChangeShapes Go.WideShapes Go.ChangeAt Go.RowKit
open FloatNum CFour
def manyN (rows:List (List Int)) (nW:Nat):Nat:=if fitB rows nW=true then (rows.getD 0 []).length - 2 else 0
theorem many_to (A:Option Addr) (rows:List (List Int)) (n cA:Nat) (AW:Option Addr) (nW cW:Nat) (W:Nat→Nat→Int) (m:Nat) (hn:rows.length=n) (hc:cA≤maxLen) (hnc:n≤cA) (hnW:nW≤1000000) (hL6:∀ row∈rows,row.length≤1000000) (hm:m=manyN rows nW)
  (hX:∀ k i,In16 (XR rows k i)) (hW:∀ k i,InW (W k i)) (F:Nat→Int) (hF:F=mnAt (XR rows) W n) (w:World) (hr:Kit.zb4 w w.heap.size .i16 A rows) (hw:Wts w w.heap.size AW nW W) :
  Calls Tryz.prog 76 #[.slice A n cA,.slice AW nW cW] w (Own64 w m (nums F m)):=by
 have HR:=hid hr
 have HWT:=hid hw
 have HX:=hid hX
 have HW:=hid hW
 have HF:=hid hF
 have HL6:=hid hL6
 have HN:=hid hn
 cases hb:fitB rows nW
 ·obtain rfl:m=0:=by rw [hm];unfold manyN;rw [hb];rfl
  have HB:=hid hb
  clear hr hw hX hW hF hL6 hn hb hm
  go_enter Tryz.func76,Tryz.ntmps76
  go_wp2_with (go_at_call 118;refine (matched_to A rows n cA AW nW cW HN.out hc hnc hnW false HB.out _ HR.out).mono ?_;rintro e w2 ⟨rfl,rfl⟩)
  go_ret
  exact⟨_,rfl,own_nil _ _ _ _,Below.refl _ _⟩
 ·obtain⟨g1,g2,g3,g4⟩:=fit_yes hb
  have hm2:m=(rows.getD 0 []).length - 2:=by rw [hm];unfold manyN;rw [if_pos hb]
  obtain rfl:nW=n:=by omega
  have h1:1≤nW:=by omega
  have hN:nW≤1024:=by omega
  have hL:(rows.getD 0 []).length≤1000000:=by rw [row0 Zb3];exact hL6 _ (List.getElem_mem _)
  have HB:=hid hb
  have HG:=hid g4
  have HM:=hid hm2
  have HLL:=hid hL
  clear hr hw hX hW hF hL6 hn hb hm g1 g2 g3 g4 hm2 hL
  go_enter Tryz.func76,Tryz.ntmps76
  go_wp2_with (first
   | (go_at_call 118;refine (matched_to A rows nW cA AW nW cW HN.out hc hnc hnW true HB.out _ HR.out).mono ?_;rintro e w2 ⟨rfl,rfl⟩)
   | (go_at_call 119;refine (added_to A rows nW cA AW cW W _ m HN.out h1 hN HG.out HM.out HLL.out HX.out HW.out F HF.out _ HR.out HWT.out).mono ?_;rintro e w3' ⟨v,rfl,hown,hbb⟩;have HO:=hid hown;have HBB:=hid hbb;clear hown hbb))
  go_ret
  exact⟨v,rfl,HO.out,HBB.out⟩
end CWheel
end
section
namespace Kit
section
variable {H:Type} {enc:TypeId × Value→H} {P:Program} {w:World} {base b0:Nat} {spare:Nat→Bool} {held:Bool} {r:Reach}
theorem open_tensor {t s d e i:TypeId} {k:IntKind} {f0 f1 g0 g1 g2:Field} {v:Value} {D:DataW H} {ps:List MemPlace}
  (ht:P.underlying t=some (.struct #[f0,f1])) (hs:P.underlying s=some (.struct #[g0,g1,g2])) (hd:P.underlying d=some (.slice e)) (he:P.underlying e=some (.int k)) (hi:P.underlying i=some (.int .i64)) (hce:P.cellsOf e=1)
  (hct:P.cellsOf t=4) (hcs:P.cellsOf s=3) (hcd:P.cellsOf d=1) (hci:P.cellsOf i=1) (hf:f0.type=s∧f0.offset=0∧f1.type=d∧f1.offset=3) (hg:g0.type=i∧g0.offset=0∧g1.type=i∧g1.offset=1∧g2.type=i∧g2.offset=2)
  (hv:Value.okWide P w r b0 t v) (h:DataW.Trod enc P w base spare held t v D ps) :
  ∃ (x y z:Int) (A:Option Addr) (zs:List Int) (c:Nat),v=.agg #[Jj Jq x,Jj Jq y,Jj Jq z,.slice A zs.length c]∧(Lit.int .i64 x).wf=true∧(Lit.int .i64 y).wf=true∧(Lit.int .i64 z).wf=true ∧
   zs.length≤c∧c≤maxLen∧(∀ n∈zs,(Lit.int k n).wf=true)∧Rd w w.heap.size A (zs.map (.int k)):=by
 obtain⟨cs,rfl,hsz⟩:=okWide_struct ht hv
 rw [hct] at hsz
 obtain⟨c0,c1,c2,c3,rfl⟩:=size_4 hsz
 obtain⟨fuel,hfu⟩:=h
 obtain⟨xs,n,_,_,_,hlen,hx⟩:=DataW.trod_struct ht hfu
 have h0:=hx 0 f0 rfl
 have h1:=hx 1 f1 rfl
 rw [hf.1,hf.2.1,hcs] at h0
 rw [hf.2.2.1,hf.2.2.2,hcd] at h1
 have e0:((Value.agg #[c0,c1,c2,c3]).cells.toList.drop 0).take 3=[c0,c1,c2]:=rfl
 have e1:((Value.agg #[c0,c1,c2,c3]).cells.toList.drop 3).take 1=[c3]:=rfl
 rw [e0] at h0
 rw [e1] at h1
 have hl2:xs.length=2:=by simpa using hlen
 rw [List.getElem?_eq_getElem Zb3] at h0 h1
 obtain⟨ys,m,_,_,_,hlen2,hy⟩:=DataW.trod_struct hs h0
 have hm2:ys.length=3:=by simpa using hlen2
 have a0:=hy 0 g0 rfl
 have a1:=hy 1 g1 rfl
 have a2:=hy 2 g2 rfl
 rw [hg.1,hg.2.1,hci] at a0
 rw [hg.2.2.1,hg.2.2.2.1,hci] at a1
 rw [hg.2.2.2.2.1,hg.2.2.2.2.2,hci] at a2
 have q0:([c0,c1,c2].drop 0).take 1=[c0]:=rfl
 have q1:([c0,c1,c2].drop 1).take 1=[c1]:=rfl
 have q2:([c0,c1,c2].drop 2).take 1=[c2]:=rfl
 rw [q0,List.getElem?_eq_getElem Zb3] at a0
 rw [q1,List.getElem?_eq_getElem Zb3] at a1
 rw [q2,List.getElem?_eq_getElem Zb3] at a2
 obtain⟨x,ex,_,wx⟩:=DataW.trod_int hi a0
 obtain⟨y,ey,_,wy⟩:=DataW.trod_int hi a1
 obtain⟨z,ez,_,wz⟩:=DataW.trod_int hi a2
 simp at ex ey ez
 subst ex ey ez
 obtain⟨a3,len,cap,e3⟩:=Go.Joins.slice_form hd h1
 simp at e3
 subst e3
 rcases open_ints hd he hce h1 with ⟨hcs,_⟩ | ⟨a,len',cap',zs,hcs,_,hl,hm,hz,_,hcell,hwz⟩
 ·simp at hcs
  obtain⟨rfl,rfl,rfl⟩:=hcs
  exact⟨x,y,z,none,[],0,rfl,wx,wy,wz,by simp,by simp,by simp,Rd.nil⟩
 ·simp at hcs
  obtain⟨rfl,rfl,rfl⟩:=hcs
  have hlz:len≤zs.length:=by rw [hz];split <;> omega
  refine⟨x,y,z,some a,zs.take len,cap,?_,wx,wy,wz,?_,hm,fun n hn=>hwz n (List.mem_of_mem_take hn),fun j u hu=>?_⟩
  ·rw [List.length_take,Nat.min_eq_left hlz]
  ·rw [List.length_take,Nat.min_eq_left hlz];exact hl
  ·exact Z1l
end
end Kit
end
section
namespace CRun
open Plain CSat CShape CTensor CConv CKind
theorem rsum_1 (x:Nd) (hk:x.kd=1) (H W C:Int) (A:Option Addr) (n c:Nat) (r:Res) (w:World) (hC:∀ w1:World,Below w.heap.size w w1→Calls Tryz.prog 34 #[.agg #[Jj Jq H,Jj Jq W,Jj Jq C,.slice A n c],.agg x.val] w1 (MAcc w1 r)) :
  Calls Tryz.prog 9 #[.agg x.val,.agg #[Jj Jq H,Jj Jq W,Jj Jq C,.slice A n c]] w (MAcc w r):=by
 have HC:=hid hC
 clear hC
 refine Za4 ?_;clear hk;intro HK HE
 go_enter Tryz.func9,Tryz.ntmps9
 go_upto_region 1 with fail
 obtain⟨W0,hW0,TN,HB,hz,TA,FR⟩:=HE.out
 rw [← hW0]
 clear hW0 HE
 refine Zah ?_;intro k00 k01 k02 k03 z0 z1 z2 z3 f0 f1 f2 f3 q0
 go_wp2_with (first
  | (refine za4 rfl _ rfl w.heap.size x rfl TN.out ?_)
  | (go_at_call 34;(with_reducible refine (HC.out _ HB.out).mono ?_);rintro e1 w1 ⟨v,rfl,ho,hb⟩;(replace TN:=hid (TN.out.below Zb3 hb));(replace TA:=hid (TA.out.below Zb3 hb));(replace FR:=hid (FR.out.below hz hb));clear k00 k01 k02 k03 z0 z1 z2 z3 f0 f1 f2 f3;obtain⟨k00,k01,k02,k03⟩:=TA.out;obtain⟨⟨z0,z1,z2,z3⟩,f0,f1,f2,f3⟩:=FR.out;have hzo:=hz;(replace hz:w.heap.size+2 < w1.heap.size:=Nat.lt_of_lt_of_le hz hb.size);have HO:=hid (Kit.zah ho (show w.heap.size+2+1≤_ from hzo));have HZO:=hid (lt_succ_self (w.heap.size+2));obtain⟨A2,c2,rfl, -, -, -⟩:=Kit.zaj ho;(replace HB:=hid (HB.out.trans (hb.mono HB.out.size)));clear ho hb))
 exact Za
theorem rsum_2 (x:Nd) (hk:x.kd=2) (H W C:Int) (A:Option Addr) (n c:Nat) (r:Res) (w:World) (hC:∀ w1:World,Below w.heap.size w w1→Calls Tryz.prog 35 #[.agg #[Jj Jq H,Jj Jq W,Jj Jq C,.slice A n c],.agg x.val] w1 (MAcc w1 r)) :
  Calls Tryz.prog 9 #[.agg x.val,.agg #[Jj Jq H,Jj Jq W,Jj Jq C,.slice A n c]] w (MAcc w r):=by
 have HC:=hid hC
 clear hC
 refine Za4 ?_;clear hk;intro HK HE
 go_enter Tryz.func9,Tryz.ntmps9
 go_upto_region 1 with fail
 obtain⟨W0,hW0,TN,HB,hz,TA,FR⟩:=HE.out
 rw [← hW0]
 clear hW0 HE
 refine Zah ?_;intro k00 k01 k02 k03 z0 z1 z2 z3 f0 f1 f2 f3 q0
 go_wp2_with (first
  | (refine za4 rfl _ rfl w.heap.size x rfl TN.out ?_)
  | (go_at_call 35;(with_reducible refine (HC.out _ HB.out).mono ?_);rintro e1 w1 ⟨v,rfl,ho,hb⟩;(replace TN:=hid (TN.out.below Zb3 hb));(replace TA:=hid (TA.out.below Zb3 hb));(replace FR:=hid (FR.out.below hz hb));clear k00 k01 k02 k03 z0 z1 z2 z3 f0 f1 f2 f3;obtain⟨k00,k01,k02,k03⟩:=TA.out;obtain⟨⟨z0,z1,z2,z3⟩,f0,f1,f2,f3⟩:=FR.out;have hzo:=hz;(replace hz:w.heap.size+2 < w1.heap.size:=Nat.lt_of_lt_of_le hz hb.size);have HO:=hid (Kit.zah ho (show w.heap.size+2+1≤_ from hzo));have HZO:=hid (lt_succ_self (w.heap.size+2));obtain⟨A2,c2,rfl, -, -, -⟩:=Kit.zaj ho;(replace HB:=hid (HB.out.trans (hb.mono HB.out.size)));clear ho hb))
 exact Za
theorem rsum_3 (x:Nd) (hk:x.kd=3) (H W C:Int) (A:Option Addr) (n c:Nat) (r:Res) (w:World) (hC:∀ w1:World,Below w.heap.size w w1→Calls Tryz.prog 36 #[.agg #[Jj Jq H,Jj Jq W,Jj Jq C,.slice A n c],.agg x.val] w1 (MAcc w1 r)) :
  Calls Tryz.prog 9 #[.agg x.val,.agg #[Jj Jq H,Jj Jq W,Jj Jq C,.slice A n c]] w (MAcc w r):=by
 have HC:=hid hC
 clear hC
 refine Za4 ?_;clear hk;intro HK HE
 go_enter Tryz.func9,Tryz.ntmps9
 go_upto_region 1 with fail
 obtain⟨W0,hW0,TN,HB,hz,TA,FR⟩:=HE.out
 rw [← hW0]
 clear hW0 HE
 refine Zah ?_;intro k00 k01 k02 k03 z0 z1 z2 z3 f0 f1 f2 f3 q0
 go_wp2_with (first
  | (refine za4 rfl _ rfl w.heap.size x rfl TN.out ?_)
  | (go_at_call 36;(with_reducible refine (HC.out _ HB.out).mono ?_);rintro e1 w1 ⟨v,rfl,ho,hb⟩;(replace TN:=hid (TN.out.below Zb3 hb));(replace TA:=hid (TA.out.below Zb3 hb));(replace FR:=hid (FR.out.below hz hb));clear k00 k01 k02 k03 z0 z1 z2 z3 f0 f1 f2 f3;obtain⟨k00,k01,k02,k03⟩:=TA.out;obtain⟨⟨z0,z1,z2,z3⟩,f0,f1,f2,f3⟩:=FR.out;have hzo:=hz;(replace hz:w.heap.size+2 < w1.heap.size:=Nat.lt_of_lt_of_le hz hb.size);have HO:=hid (Kit.zah ho (show w.heap.size+2+1≤_ from hzo));have HZO:=hid (lt_succ_self (w.heap.size+2));obtain⟨A2,c2,rfl, -, -, -⟩:=Kit.zaj ho;(replace HB:=hid (HB.out.trans (hb.mono HB.out.size)));clear ho hb))
 exact Za
theorem rsum_no (x:Nd) (hk:¬ x.kd=1∧¬ x.kd=2∧¬ x.kd=3) (H W C:Int) (A:Option Addr) (n c:Nat) (w:World):Calls Tryz.prog 9 #[.agg x.val,.agg #[Jj Jq H,Jj Jq W,Jj Jq C,.slice A n c]] w (MAcc w (Res.bad 6)):=by
 refine Za4 ?_;clear hk;intro HK HE
 go_enter Tryz.func9,Tryz.ntmps9
 exact Z3m
end CRun
end
end Go.Proofs.YtchpdhhpkljdhaaGreatDoor
