/- -/
import Derived.Test.YtoffcaldhojjoaaGreatDoorGVU7
open Go.Lib (hid)
open Nat (le_refl lt_of_succ_lt lt_succ_self)
set_option linter.unusedVariables false
set_option linter.unusedSimpArgs false
set_option maxRecDepth 100000
set_option maxHeartbeats 16000000
namespace Go.Proofs.YtoffcaldhojjoaaGreatDoor
namespace CConv
end CConv
namespace CSat
end CSat
namespace CTensor
end CTensor
open Go Go.ChangeShapes Go.WideShapes Go.ChangeAt Go.RowKit Go.Deep
section
namespace CKind
open Plain CSat CShape CTensor CConv
theorem refMore_to (x:Nd):MoreIs x:=by
 by_cases h0:x.kd < 1∨9 < x.kd
 ·exact more_o x h0
 ·have:x.kd=1∨x.kd=2∨x.kd=3∨x.kd=4∨x.kd=5∨x.kd=6∨x.kd=7∨x.kd=8∨x.kd=9:=by omega
  rcases this with h | h | h | h | h | h | h | h | h
  ·exact more_1 x h
  ·exact more_2 x h
  ·exact more_3 x h
  ·exact more_4 x h
  ·exact more_5 x h
  ·exact more_6 x h
  ·exact more_7 x h
  ·exact more_8 x h
  ·exact more_9 x h
end CKind
end
section
namespace CFix
open Go Go.ChangeShapes Go.WideShapes Go.ChangeAt Go.RowKit
open Plain CSat
theorem pow_even (s p:Nat) (h:2 ^ s=p) (h1:1 < p):2 * (p / 2)=p:=by
 cases s with
 | zero=>simp at h;omega
 | succ s=>rw [Nat.pow_succ] at h;omega
theorem round_parts (v:Int) (s p:Nat) (h:2 ^ s=p) (h1:1≤p):∃ Q R:Nat,R < p∧Q≤v.natAbs∧(1 < p→2 * Q≤v.natAbs) ∧
  (0≤v→v.tdiv (p:Int)=Q∧v.tmod (p:Int)=R)∧(v < 0→v.tdiv (p:Int) = -(Q:Int)∧v.tmod (p:Int) = -(R:Int)) ∧
  (p≤2 * R∧1 < p→zbb v s=if v < 0 then -(Q:Int) - 1 else (Q:Int)+1)∧(¬ (p≤2 * R∧1 < p)→zbb v s=if v < 0 then -(Q:Int) else (Q:Int)):=by
 refine⟨v.natAbs / p,v.natAbs % p,Nat.mod_lt _ (by omega),Nat.div_le_self _ _,?_,?_,?_,?_,?_⟩
 ·intro h2
  have hd:=Nat.div_add_mod v.natAbs p
  have:2 * (v.natAbs / p)≤p * (v.natAbs / p):=Nat.mul_le_mul_right _ h2
  omega
 ·intro h0
  obtain⟨n,rfl⟩:=Int.eq_ofNat_of_zero_le h0
  exact⟨by simp,by rw [Int.tmod_eq_emod_of_nonneg (by omega)];simp⟩
 ·intro h0
  have e:v = -(v.natAbs:Int):=by omega
  generalize v.natAbs=n at e
  subst e
  rw [Int.neg_tdiv,Int.neg_tmod,Int.tmod_eq_emod_of_nonneg (by omega)]
  simp
 ·rintro⟨h2,h3⟩
  have he:=pow_even s p h h3
  have hm:=Nat.mod_lt v.natAbs (show 0 < p by omega)
  have hd:=Nat.div_add_mod v.natAbs p
  have hx:(v.natAbs+p / 2) / p=v.natAbs / p+1:=by
   rw [Nat.div_eq_iff (by omega)]
   have:(v.natAbs / p+1) * p=p * (v.natAbs / p)+p:=by rw [Nat.add_mul,Nat.one_mul,Nat.mul_comm]
   omega
  unfold zbb
  rw [h,hx]
  split <;> omega
 ·intro h2
  have hx:(v.natAbs+p / 2) / p=v.natAbs / p:=by
   have hm:=Nat.mod_lt v.natAbs (show 0 < p by omega)
   have hd:=Nat.div_add_mod v.natAbs p
   rw [Nat.div_eq_iff (by omega)]
   have:(v.natAbs / p) * p=p * (v.natAbs / p):=Nat.mul_comm _ _
   omega
  unfold zbb
  rw [h,hx]
theorem refRound_yes (v:Int) (s:Nat) (h:s≤62) (hv1 : -9223372036854775808≤v) (hv2:v≤9223372036854775807) (w:World) :
  Calls Tryz.prog 66 #[.int .i64 v,.int .i64 (s:Int)] w fun e w'=>e=.returned (.int .i64 (zbb v s))∧∃ m,w'=w.drewN m:=by
 have d1:decide ((s:Int) < 0)=false:=by simp
 have d2:decide (62 < (s:Int))=false:=by simp;omega
 go_enter Tryz.func66,Tryz.ntmps66
 go_wp2
 go_loop [5,6] (fun t i=>∃ k p:Nat,k≤s∧i=.int .i64 k∧t=.int .i64 (p:Int)∧1≤p∧p≤4611686018427387904∧Hid (2 ^ k=p)) (fun _ i=>s - (intOf i).toNat)
 case atStart=>exact⟨0,1,Nat.zero_le _,rfl,rfl,by omega,by omega,rfl⟩
 case round =>
  obtain⟨k,p,hk,rfl,rfl,hp1,hp2,hp⟩:=hrel
  by_cases hlt:k < s
  ·have hb:p * 2≤4611686018427387904:=by
    have e:2 ^ (k+1)=p * 2:=by rw [Nat.pow_succ,hp.out]
    rw [← e]
    exact Nat.pow_le_pow_right (by omega) (show k+1≤62 by omega)
   go_wp2
   go_round
   case rel=>exact⟨k+1,p * 2,by omega,by go_num,by go_num,by omega,by omega,hid (show 2 ^ (k+1)=p * 2 by rw [Nat.pow_succ,hp.out])⟩
   case measure=>simp [intOf];omega
  ·have hks:k=s:=by omega
   subst hks
   obtain⟨Q,R,hR,hQ,g0,g1,g2,g3,g4⟩:=round_parts v k p hp.out hp1
   have hQ2:Q≤9223372036854775808:=by omega
   by_cases hn:v < 0
   ·obtain⟨e1,e2⟩:=g2 hn
    by_cases ht:p≤2 * R∧1 < p
    ·have e3:=g3 ht
     rw [if_pos hn] at e3
     have E3:=hid e3
     obtain⟨ht1,ht2⟩:=ht
     have g5:=g0 ht2
     have e4:IntKind.i64.wrap (-(Q:Int)) = -(Q:Int):=IntWalk.i64_in _ (by omega)
     clear g0 g1 g2 g3 g4 e3
     go_wp2
     go_quiet (fail)
     go_wp2
     all_goals
      go_ret
      exact⟨zbr (by rw [E3.out]),nq,rfl⟩
    ·have e3:=g4 ht
     rw [if_pos hn] at e3
     have E3:=hid e3
     have e4:IntKind.i64.wrap (-(Q:Int)) = -(Q:Int):=IntWalk.i64_in _ (by omega)
     clear g0 g1 g2 g3 g4 e3
     go_wp2
     go_quiet (fail)
     go_wp2
     all_goals
      go_ret
      exact⟨zbr (by rw [E3.out]),nq,rfl⟩
   ·obtain⟨e1,e2⟩:=g1 (by omega)
    by_cases ht:p≤2 * R∧1 < p
    ·have e3:=g3 ht
     rw [if_neg hn] at e3
     have E3:=hid e3
     obtain⟨ht1,ht2⟩:=ht
     have g5:=g0 ht2
     have e4:IntKind.i64.wrap ((Q:Int))=(Q:Int):=IntWalk.i64_in _ (by omega)
     clear g0 g1 g2 g3 g4 e3
     go_wp2
     go_quiet (fail)
     go_wp2
     all_goals
      go_ret
      exact⟨zbr (by rw [E3.out]),nq,rfl⟩
    ·have e3:=g4 ht
     rw [if_neg hn] at e3
     have E3:=hid e3
     have e4:IntKind.i64.wrap ((Q:Int))=(Q:Int):=IntWalk.i64_in _ (by omega)
     clear g0 g1 g2 g3 g4 e3
     go_wp2
     go_quiet (fail)
     go_wp2
     all_goals
      go_ret
      exact⟨zbr (by rw [E3.out]),nq,rfl⟩
theorem refRight_yes (m s z:Int) (h:za0 m s=true) (w:World) :
  Calls Tryz.prog 36 #[.agg #[.int .i32 m,.int .i64 s,.int .i8 z]] w fun e w'=>e=.returned (.bool true)∧Below w.heap.size w w':=by
 obtain⟨h1,h2,h3⟩:0 < m∧0≤s∧s≤62:=by simpa [za0] using h
 clear h
 go_enter Tryz.func36,Tryz.ntmps36
 go_wp2
 go_ret
 exact⟨rfl,(Below.refl _ _).alloc (le_refl _) _⟩
theorem refRight_no (m s z:Int) (h:za0 m s=false) (w:World) :
  Calls Tryz.prog 36 #[.agg #[.int .i32 m,.int .i64 s,.int .i8 z]] w fun e w'=>e=.returned (.bool false)∧Below w.heap.size w w':=by
 have h0:¬ (0 < m∧0≤s∧s≤62):=by simpa [za0] using h
 clear h
 have h1:(decide (0 < m)=false)∨(0 < m∧decide (0≤s)=false)∨(0 < m∧0≤s∧decide (s≤62)=false):=by simp;omega
 clear h0
 rcases h1 with h1 | ⟨h1,h2⟩ | ⟨h1,h2,h3⟩
 all_goals
  go_enter Tryz.func36,Tryz.ntmps36
  go_wp2
  go_ret
  exact⟨rfl,(Below.refl _ _).alloc (le_refl _) _⟩
theorem refRound_to (v:Int) (s:Nat) (t:Int) (h:s≤62) (hv1 : -9223372036854775808≤v) (hv2:v≤9223372036854775807) (ht:zbb v s=t) (w:World) :
  Calls Tryz.prog 66 #[.int .i64 v,.int .i64 (s:Int)] w fun e w'=>e=.returned (.int .i64 t)∧∃ m,w'=w.drewN m:=ht ▸ refRound_yes v s h hv1 hv2 w
theorem refHeld_to (v lo hi r:Int) (h:zbt v lo hi=r) (w:World) :
  Calls Tryz.prog 67 #[.int .i64 v,.int .i64 lo,.int .i64 hi] w fun e w'=>e=.returned (.int .i64 r)∧w=w':=h ▸ CSat.refHeld v lo hi w
theorem refHeldQ (a m s z lo hi:Int) (ha1 : -2147483648≤a) (ha2:a≤2147483647) (hm1 : -2147483648≤m) (hm2:m≤2147483647) (hz1 : -128≤z) (hz2:z≤127)
  (hl1 : -128≤lo) (hl2:lo≤127) (hh1 : -128≤hi) (hh2:hi≤127) (w:World) :
  Calls Tryz.prog 65 #[.int .i32 a,.agg #[.int .i32 m,.int .i64 s,.int .i8 z],.int .i8 lo,.int .i8 hi] w fun e w'=>e=.returned (.int .i8 (heldZ a m s z lo hi))∧Below w.heap.size w w':=by
 obtain⟨h1,h2⟩:=mul_bd a m ha1 ha2 hm1 hm2
 cases hr:za0 m s
 ·have hv:heldZ a m s z lo hi=0:=by unfold heldZ;rw [hr];rfl
  rw [hv]
  have HR:=hid hr
  clear hr hv
  go_enter Tryz.func65,Tryz.ntmps65
  go_wp2_with (go_at_call 36;refine (refRight_no _ _ _ HR.out _).mono ?_;rintro e w1 ⟨rfl,hb⟩;obtain⟨hc,hf⟩:=Kit.bcell hb)
  go_ret
  exact⟨rfl,((Below.refl _ _).alloc (le_refl _) _).trans (hb.mono (by simp))⟩
 ·obtain⟨h3,h4,h5⟩:0 < m∧0≤s∧s≤62:=by simpa [za0] using hr
  obtain⟨n,rfl⟩:=Int.eq_ofNat_of_zero_le h4
  have hv:heldZ a m n z lo hi=zbt (zbb (a * m) n+z) lo hi:=by unfold heldZ;rw [hr];rfl
  rw [hv]
  have hn:n≤62:=by omega
  have hra:=round_abs (a * m) n hn (by omega) (by omega)
  obtain⟨t,ht⟩:∃ t,zbb (a * m) n=t:=⟨_,rfl⟩
  rw [ht] at hra
  rw [ht]
  have ht1 : -4611686018427387904≤t:=by omega
  have ht2:t≤4611686018427387904:=by omega
  obtain⟨c,hc0⟩:∃ c,zbt (t+z) lo hi=c:=⟨_,rfl⟩
  have hcb : -128≤c∧c≤127:=by subst hc0;unfold zbt;split <;> (try split) <;> omega
  obtain⟨hcb1,hcb2⟩:=hcb
  rw [hc0]
  have HR:=hid hr
  have HT:=hid ht
  have HC:=hid hc0
  clear hr hv ht hra hc0
  go_enter Tryz.func65,Tryz.ntmps65
  go_wp2_with (go_at_call 36;refine (refRight_yes _ _ _ HR.out _).mono ?_;rintro e w1 ⟨rfl,hb⟩;obtain⟨hc,hf⟩:=Kit.bcell hb)
  go_quiet ((go_at_call 66;exact Calls.quiet_of (refRound_to _ _ t hn (by omega) (by omega) HT.out _)))
  go_wp2_with (go_at_call 67;refine (refHeld_to _ _ _ c HC.out _).mono ?_;rintro e w' ⟨rfl,rfl⟩)
  all_goals go_outline
  go_ret
  exact⟨rfl,Kit.below_drewN (((Below.refl _ _).alloc (le_refl _) _).trans (hb.mono (by simp))) _⟩
end CFix
end
section
namespace CTensor
open Go Go.ChangeShapes Go.WideShapes Go.ChangeAt Go.RowKit
open Plain CSat CShape
theorem eqShape (a b c x y z:Int) (w:World):(Op.equalIn 10000 23 (.agg #[.int .i64 a,.int .i64 b,.int .i64 c]) (.agg #[.int .i64 x,.int .i64 y,.int .i64 z])).run Tryz.prog w=.ok (a == x && (b == y && c == z)) w:=by
 have u3:=Tryz.underlying3
 have a3:=Tryz.isAgg3
 have z3:=Tryz.sizeOf3
 have hS:Tryz.prog.underlying 23=some (.struct (Tryz.prog.fieldsOf 23)):=by kernel_rfl
 rw [show (10000:Nat)=9999+1 from rfl,run_equalIn_agg w 9999 23 _ _ hS Tryz.stoodInHeld23]
 simp only [Program.fieldsOf,Tryz.underlying23]
 go_simp
 by_cases h1:a=x <;> by_cases h2:b=y <;> by_cases h3:c=z <;> simp [h1,h2,h3]
end CTensor
end
section
namespace CKind
open Plain CSat CShape CTensor CConv
def NdBox (b:Nat) (x:Nd) (w:World):Prop:=NdAt b x w∧w.there b 0 19
theorem NdBox.new (x:Nd) (T:TypeId) (w:World):NdBox w.heap.size x (w.alloc (.cells x.val T)):=by
 refine⟨NdAt.new x T w,fun j hj=>?_⟩
 rw [Nat.zero_add]
 constructor
 ·rw [Kit.zal]
  have:j < x.val.size:=hj
  simp [this]
 ·unfold World.frozen?;rw [heap_alloc_new];rfl
theorem NdBox.below {b B:Nat} {x:Nd} {w w':World} (h:NdBox b x w) (hB:b < B) (hb:Below B w w'):NdBox b x w' :=
 ⟨h.1.below hB hb,fun j hj=>⟨by rw [hb.cell (p:=⟨b,0+j,none⟩) hB];exact (h.2 j hj).1,by rw [hb.frozen (p:=⟨b,0+j,none⟩) hB];exact (h.2 j hj).2⟩⟩
theorem NdBox.set {b:Nat} {x y:Nd} {w:World} (h:NdBox b x w) (i:Nat) (v:Value) (hi:i < 19) (hy:x.val.toList.set i v=y.val.toList):NdBox b y (w.setCell ⟨b,i,none⟩ v):=by
 have hc:=(h.2 i hi).1
 rw [Nat.zero_add] at hc
 refine⟨fun j u hj=>?_,fun j hj=>⟨?_,?_⟩⟩
 ·rw [Nat.zero_add]
  rw [← hy,List.getElem?_set] at hj
  by_cases e:i=j
  ·subst e
   rw [if_pos rfl,if_pos (show i < x.val.toList.length from hi)] at hj
   cases hj
   exact World.cell?_setCell_same' _ _ _ hc
  ·rw [if_neg e] at hj
   rw [World.cell?_setCell_other _ _ _ _ (fun hh=>e (by injection hh))]
   have:=h.1 j u hj
   rwa [Nat.zero_add] at this
 ·rw [Nat.zero_add]
  by_cases e:i=j
  ·subst e
   rw [World.cell?_setCell_same' _ _ _ hc];rfl
  ·rw [World.cell?_setCell_other _ _ _ _ (fun hh=>e (by injection hh))]
   have:=(h.2 j hj).1
   rwa [Nat.zero_add] at this
 ·rw [World.frozen?_setCell];exact (h.2 j hj).2
theorem NdBox.fr {b:Nat} {x:Nd} {w:World} (h:NdBox b x w) (i:Nat) (hi:i < 19):w.frozen? ⟨b,i,none⟩=false:=by
 have:=(h.2 i hi).2
 rwa [Nat.zero_add] at this
theorem info_node:(Tryz.prog.info? 61).map (·.size)=some 19:=by kernel_rfl
theorem nd_one (x:Nd):x.val.all (·.oneCell')=true:=by simp [Nd.val,Value.oneCell']
theorem za2 {ops:Array Oper} {rest:List Oper} {op:Oper} {a:Act} {w:World} {Q:Exit→Act→World→Prop} (hgd:op.guard=none) (x y:Operand) (ho:op.op=.store 61 x y)
  (b:Nat) (u v:Nd) (hx:a.eval x=.pointer (some ⟨b,0,none⟩)) (hy:a.eval y=.agg v.val) (hb:NdBox b u w)
  (h:∀ w',NdBox b v w'→Below b w w'→w'.heap.size=w.heap.size→wpList Tryz.prog ops Q rest (a.put op.dst undef) w'):wpList Tryz.prog ops Q (op :: rest) a w:=by
 refine wpList_store_mid hgd 61 x y ho b 0 v.val hx hy hb.2 info_node (nd_one v) ?_
 have go:∀ (vs:List Value) (o:Nat) (w:World),Below b w (w.setCells b o vs)∧(w.setCells b o vs).heap.size=w.heap.size:=by
  intro vs
  induction vs with
  | nil=>intro o w;exact⟨Below.refl _ _,rfl⟩
  | cons v vs ih=>intro o w;exact⟨((Below.refl b w).setCell (p:=⟨b,o,none⟩) (le_refl _) v).trans (ih (o+1) _).1,(ih (o+1) (w.setCell ⟨b,o,none⟩ v)).2.trans (by simp [World.setCell])⟩
 exact h _ ⟨World.rangeAt_setCells_same _ _ _ _ hb.2,World.there_setCells hb.2 _ _ _⟩ (go _ _ _).1 (go _ _ _).2
theorem zac {ops:Array Oper} {rest:List Oper} {op:Oper} {a:Act} {w:World} {Q:Exit→Act→World→Prop} (hgd:op.guard=none) (x:Operand) (ho:op.op=.load 61 x)
  (b:Nat) (u:Nd) (hx:a.eval x=.pointer (some ⟨b,0,none⟩)) (hb:NdAt b u w)
  (h:wpList Tryz.prog ops Q rest (a.put op.dst (.agg u.val)) w):wpList Tryz.prog ops Q (op :: rest) a w :=
 wpList_load_mid hgd 61 x ho b 0 hx u.val.toList _ hb Tryz.underlying61 rfl (by kernel_rfl) h
theorem zbz {fn:Func} {p:Tmp} (h:fn.results=#[.cell p 61]) (tmps:Array Value) (w:World) (b:Nat) (x:Nd) (hp:tmps.getD p undef=.pointer (some ⟨b,0,none⟩)) (hb:NdAt b x w) :
  (results fn tmps).run Tryz.prog w=.ok (.agg x.val) w :=
 Kit.zat h tmps w b 0 x.val.toList _ hp hb Tryz.underlying61 rfl (by kernel_rfl)
def Nd.zero:Nd:=⟨0,0,0,0,0,0,0,0,0,none,0,0,none,0,0,0,0,0,0,0,0,0,0⟩
def Nd.ownK (x:Nd) (k:Int):Nd :=
 ⟨k,x.na,if k == 6 then x.nb else 0,if zai k then x.K else 0,if zai k then x.S else 0,if zai k || k == 8 then x.P else 0,if k == 1 || k == 3 then x.O else 0,if zad k || k == 8 then x.Z else 0,if k == 6 then x.Y else 0,
  if sumsB k then x.WA else none,if sumsB k then x.nW else 0,if sumsB k then x.cW else 0,if sumsB k then x.BA else none,if sumsB k then x.nB else 0,if sumsB k then x.cB else 0,
  if zad k then x.m1 else 0,if zad k then x.s1 else 0,if zad k then x.z1 else 0,if k == 6 then x.m2 else 0,if k == 6 then x.s2 else 0,0,if zad k then x.lo else 0,if zad k then x.hi else 0⟩
end CKind
end
end Go.Proofs.YtoffcaldhojjoaaGreatDoor
