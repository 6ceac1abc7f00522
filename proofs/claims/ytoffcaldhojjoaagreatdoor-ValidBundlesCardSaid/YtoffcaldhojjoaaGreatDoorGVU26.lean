/- -/
import Derived.Test.YtoffcaldhojjoaaGreatDoorGVU25
open Go.Lib (hid)
open Nat (le_refl lt_of_succ_lt lt_succ_self)
set_option linter.unusedVariables false
set_option linter.unusedSimpArgs false
set_option maxRecDepth 100000
set_option maxHeartbeats 16000000
namespace Go.Proofs.YtoffcaldhojjoaaGreatDoor
namespace CConv
end CConv
namespace CFix
end CFix
namespace CKind
end CKind
namespace CSat
end CSat
namespace CTensor
end CTensor
open Go Go.ChangeShapes Go.WideShapes Go.ChangeAt Go.RowKit Go.Deep
section
namespace CGraph
open Plain CSat CFix CShape CTensor CConv CKind
def i64V (L:List Int):List Value:=L.map (.int .i64)
theorem kd6 {x:Nd} (h:x.kd=6):(x.kd == 6)=true∧(x.kd != 6)=false:=by simp [h]
theorem kd6n {x:Nd} (h:¬ x.kd=6):(x.kd == 6)=false∧(x.kd != 6)=true:=by simp [h]
theorem operands_to (x:Nd) (w:World):Calls Tryz.prog 58 #[.agg x.val] w fun e w'=>∃ b,e=.returned (.slice (some ⟨b,0,none⟩) (opL x).length (opL x).length)∧w.heap.size≤b∧Kit.Rd w' w'.heap.size (some ⟨b,0,none⟩) (i64V (opL x))∧Below w.heap.size w w':=by
 have TN:=NdAt.new x 61 w
 have HB0:=(Below.refl w.heap.size w).alloc (le_refl _) (.cells x.val 61)
 have c0:=TN.at 0 _ rfl
 have c1:=TN.at 1 _ rfl
 have c2:=TN.at 2 _ rfl
 have HB:=hid HB0
 clear TN HB0
 by_cases h:x.kd=6
 ·obtain⟨h1,h2⟩:=kd6 h
  have e:opL x=[x.na,x.nb]:=by unfold opL;rw [if_pos h]
  rw [e]
  clear e h
  go_enter Tryz.func58,Tryz.ntmps58
  go_upto_region 1 with fail
  generalize w.alloc (.cells x.val 61)=W0 at c0 c1 c2 HB ⊢
  go_wp2_with fail
  go_ret
  exact⟨_,rfl,HB.out.size,Kit.Rd.new _ [.int .i64 x.na,.int .i64 x.nb] _ (by simp),HB.out.alloc HB.out.size _⟩
 ·obtain⟨h1,h2⟩:=kd6n h
  have e:opL x=[x.na]:=by unfold opL;rw [if_neg h]
  rw [e]
  clear e h
  go_enter Tryz.func58,Tryz.ntmps58
  go_upto_region 1 with fail
  generalize w.alloc (.cells x.val 61)=W0 at c0 c1 c2 HB ⊢
  go_wp2_with fail
  go_ret
  exact⟨_,rfl,HB.out.size,Kit.Rd.new _ [.int .i64 x.na] _ (by simp),HB.out.alloc HB.out.size _⟩
theorem earB_iff:∀ (l:List Int) (m:Int),earB l m=true↔∀ (k:Nat) (z:Int),l[k]?=some z→0≤z∧z < m
 | [],m=>by simp [earB]
 | v :: r,m=>by
   simp only [earB,Bool.and_eq_true,decide_eq_true_eq,earB_iff r m]
   constructor
   ·rintro⟨h1,h2⟩ k z hk
    cases k with
    | zero=>simp at hk;subst hk;exact h1
    | succ k=>exact h2 k z (by simpa using hk)
   ·intro h
    exact⟨h 0 v rfl,fun k z hk=>h (k+1) z (by simpa using hk)⟩
theorem earB_no {l:List Int} {m:Int} {k:Nat} {z:Int} (hk:l[k]?=some z) (h:¬ (0≤z∧z < m)):earB l m=false:=by
 cases e:earB l m with
 | false=>rfl
 | true=>exact absurd ((earB_iff l m).1 e k z hk) h
def AheadZ (l:List Int) (m:Int) (k:Nat):Prop:=∀ (j:Nat) (z:Int),j < k→l[j]?=some z→0≤z∧z < m
theorem earlier_to (l:List Int) (n:Nat) (hn:l.length=n) (hn1:n≤1000) (m:Int) (A:Option Addr) (c:Nat) (w:World) {B:Nat} (hr:Kit.Rd w B A (i64V l)):Calls Tryz.prog 57 #[.slice A n c,.int .i64 m] w fun e w'=>e=.returned (.bool (earB l m))∧w=w':=by
 have HR:=hid hr
 have HN:=hid hn
 clear hr hn
 go_enter Tryz.func57,Tryz.ntmps57
 go_wp2_with fail
 go_loop [9] (fun u=>∃ k:Nat,k≤n∧u=.int .i64 k∧Hid (AheadZ l m k)) (fun u=>n - (intOf u).toNat)
 case atStart=>exact⟨0,Nat.zero_le _,rfl,hid (fun j z hj=>absurd hj (Nat.not_lt_zero _))⟩
 case round =>
  obtain⟨k,hk,rfl,hi⟩:=hrel
  by_cases hlt:k < n
  ·have hkl:k < l.length:=by have:=HN.out;omega
   obtain⟨b,o,rfl, -,h1⟩:=HR.out.plain (by rw [i64V,List.length_map];omega)
   obtain⟨z,hz⟩:∃ z,l[k]?=some z:=⟨_,List.getElem?_eq_getElem hkl⟩
   have c1:=h1 k (.int .i64 z) (by simp [i64V,hz])
   have k0:(0:Int)≤(k:Int):=by omega
   have k1:(k:Int) < (n:Int):=by omega
   clear h1
   by_cases hok:0≤z∧z < m
   ·have hz1:¬ z < 0:=by omega
    have hz2:¬ z ≥ m:=by omega
    have hs:AheadZ l m (k+1):=fun j y hj hy=>by
     rcases Nat.lt_succ_iff_lt_or_eq.1 hj with h | rfl
     ·exact hi.out j y h hy
     ·rw [hz] at hy;cases hy;exact hok
    have HS:=hid hs
    clear hi hs hok hz
    go_wp2_with fail
    go_round
    case rel=>exact⟨k+1,by omega,by go_num,HS⟩
    case measure=>simp [intOf];omega
   ·have hf:=earB_no hz hok
    have HF:=hid hf
    clear hi hf hz
    by_cases hz1:z < 0
    ·clear hok
     go_wp2_with fail
     go_ret
     exact⟨by rw [HF.out];rfl,rfl⟩
    ·have hz2:z ≥ m:=by omega
     clear hok
     go_wp2_with fail
     go_ret
     exact⟨by rw [HF.out];rfl,rfl⟩
  ·obtain rfl:k=n:=by omega
   have hy:earB l m=true:=(earB_iff l m).2 fun j z hz=>hi.out j z (by have:=(List.getElem?_eq_some_iff.1 hz).1;have:=HN.out;omega) hz
   have HY:=hid hy
   clear hi hy
   go_wp2_with fail
   go_ret
   exact⟨by rw [HY.out];rfl,rfl⟩
theorem refSecond_to (x:Nd) (w:World):Calls Tryz.prog 25 #[.agg x.val] w fun e w'=>e=.returned (.int .i64 (sndZ x))∧Below w.heap.size w w':=by
 have TN:=NdAt.new x 61 w
 have HB0:=(Below.refl w.heap.size w).alloc (le_refl _) (.cells x.val 61)
 have c0:=TN.at 0 _ rfl
 have c1:=TN.at 1 _ rfl
 have c2:=TN.at 2 _ rfl
 have HB:=hid HB0
 obtain⟨R,hR⟩:∃ R,sndZ x=R:=⟨_,rfl⟩
 have HRR:=hid hR
 rw [hR]
 clear TN HB0 hR
 go_enter Tryz.func25,Tryz.ntmps25
 go_upto_region 1 with fail
 generalize w.alloc (.cells x.val 61)=W0 at c0 c1 c2 HB ⊢
 by_cases h:x.kd=6
 ·obtain⟨h1,h2⟩:=kd6 h
  obtain rfl:x.nb=R:=by rw [← HRR.out];unfold sndZ;rw [if_pos h]
  clear h HRR
  go_wp2_with fail
  go_ret
  exact⟨rfl,HB.out⟩
 ·obtain⟨h1,h2⟩:=kd6n h
  obtain rfl:x.na=R:=by rw [← HRR.out];unfold sndZ;rw [if_neg h]
  clear h HRR
  go_wp2_with fail
  go_ret
  exact⟨rfl,HB.out⟩
theorem refThere_to (x:Nd) (many:Nat) (w:World):Calls Tryz.prog 23 #[.agg x.val,.int .i64 many] w fun e w'=>e=.returned (.bool (zbp x many))∧Below w.heap.size w w':=by
 have TN:=NdAt.new x 61 w
 have HB0:=(Below.refl w.heap.size w).alloc (le_refl _) (.cells x.val 61)
 have c0:=TN.at 0 _ rfl
 have c1:=TN.at 1 _ rfl
 have c2:=TN.at 2 _ rfl
 have HB:=hid HB0
 obtain⟨R,hR⟩:∃ R,zbp x many=R:=⟨_,rfl⟩
 have HRR:=hid hR
 rw [hR]
 clear TN HB0 hR
 go_enter Tryz.func23,Tryz.ntmps23
 go_upto_region 1 with fail
 generalize w.alloc (.cells x.val 61)=W0 at c0 c1 c2 HB ⊢
 by_cases a1:x.na ≥ 0
 ·by_cases a2:x.na < many
  ·by_cases h:x.kd=6
   ·obtain⟨h1,h2⟩:=kd6 h
    by_cases b1:x.nb ≥ 0
    ·obtain rfl:R=decide (x.nb < many):=by rw [← HRR.out];unfold zbp;rw [decide_eq_decide];simp [h];omega
     clear HRR h
     go_wp2_with fail
     go_ret
     exact⟨rfl,HB.out⟩
    ·obtain rfl:R=false:=by rw [← HRR.out];unfold zbp;simp [h];omega
     clear HRR h
     go_wp2_with fail
     go_ret
     exact⟨rfl,HB.out⟩
   ·obtain⟨h1,h2⟩:=kd6n h
    obtain rfl:R=true:=by rw [← HRR.out];unfold zbp;simp [h];omega
    clear HRR h
    go_wp2_with fail
    go_ret
    exact⟨rfl,HB.out⟩
  ·obtain rfl:R=false:=by rw [← HRR.out];unfold zbp;simp;omega
   clear HRR
   go_wp2_with fail
   go_ret
   exact⟨rfl,HB.out⟩
 ·obtain rfl:R=false:=by rw [← HRR.out];unfold zbp;simp;omega
  clear HRR
  go_wp2_with fail
  go_ret
  exact⟨rfl,HB.out⟩
theorem info_shape:(Tryz.prog.info? 23).map (·.size)=some 3:=by kernel_rfl
theorem tri_one (a b c:Int):(#[.int .i64 a,.int .i64 b,.int .i64 c]:Array Value).all (·.oneCell')=true:=by simp [Value.oneCell']
theorem zb1 {b n B:Nat} {w w':World} (h:w.there b 0 n) (hB:b < B) (hb:Below B w w'):w'.there b 0 n:=fun j hj=>by
 have h1:w'.cell? ⟨b,0+j,none⟩=w.cell? ⟨b,0+j,none⟩:=hb.cell (p:=⟨b,0+j,none⟩) hB
 have h2:w'.frozen? ⟨b,0+j,none⟩=w.frozen? ⟨b,0+j,none⟩:=World.frozen?_of_block (hb.block b hB)
 rw [h1,h2];exact h j hj
def NxS (w:World) (x:Nd) (w':World):Prop:=NdAt w.heap.size x w'∧w'.there (w.heap.size+1) 0 3∧Below w.heap.size w w'∧w.heap.size+1 < w'.heap.size
theorem NxS.below {w:World} {x:Nd} {w' w2:World} (h:NxS w x w') (hb:Below w'.heap.size w' w2):NxS w x w2 :=
 ⟨h.1.below (by have:=h.2.2.2;omega) hb,zb1 h.2.1 h.2.2.2 hb,h.2.2.1.trans (hb.mono (by have:=h.2.2.2;omega)),Nat.lt_of_lt_of_le h.2.2.2 hb.size⟩
theorem setCells_below:∀ (vs:List Value) (b o:Nat) (w:World),Below b w (w.setCells b o vs)∧(w.setCells b o vs).heap.size=w.heap.size:=by
 intro vs
 induction vs with
 | nil=>intro b o w;exact⟨Below.refl _ _,rfl⟩
 | cons v vs ih=>intro b o w;exact⟨((Below.refl b w).setCell (p:=⟨b,o,none⟩) (le_refl _) v).trans (ih b (o+1) _).1,(ih b (o+1) (w.setCell ⟨b,o,none⟩ v)).2.trans (by simp [World.setCell])⟩
theorem NxS.stored {w:World} {x:Nd} {w':World} (h:NxS w x w') (vs:Array Value):NxS w x (w'.setCells (w.heap.size+1) 0 vs.toList):=by
 obtain⟨h1,h2⟩:=setCells_below vs.toList (w.heap.size+1) 0 w'
 exact⟨h.1.below (lt_succ_self _) h1,World.there_setCells h.2.1 _ _ _,h.2.2.1.trans (h1.mono (by omega)),by rw [h2];exact h.2.2.2⟩
theorem NxS.new (x:Nd) (w:World):NxS w x ((w.alloc (.cells x.val 61)).alloc (.cells #[.int .i64 0,.int .i64 0,.int .i64 0] 23)):=by
 have s1:(w.alloc (.cells x.val 61)).heap.size=w.heap.size+1:=by simp
 refine⟨(NdAt.new x _ w).below (B:=w.heap.size+1) (by omega) ((Below.refl _ _).alloc (by simp) _),?_,((Below.refl _ _).alloc (le_refl _) _).alloc (by simp) _,by simp⟩
 intro j hj
 rw [Nat.zero_add, ← s1]
 refine⟨?_,?_⟩
 ·rw [Kit.zal]
  match j,hj with
  | 0,_=>rfl
  | 1,_=>rfl
  | 2,_=>rfl
 ·have hh:((w.alloc (.cells x.val 61)).alloc (.cells #[.int .i64 0,.int .i64 0,.int .i64 0] 23)).heap[(w.alloc (.cells x.val 61)).heap.size]?=some (.cells #[.int .i64 0,.int .i64 0,.int .i64 0] 23):=heap_alloc_new _ _
  simp only [World.frozen?,hh]
  rfl
theorem tvV_at {L:List Tri} {n k:Nat} (hn:L.length=n) (hk:k < n):∃ a,L[k]?=some a∧L.getD k tri0=a:=by
 have h:k < L.length:=by omega
 refine⟨L[k],List.getElem?_eq_getElem h,?_⟩
 rw [List.getD_eq_getElem?_getD,List.getElem?_eq_getElem h];rfl
def NextPost (x:Nd) (L:List Tri) (w:World) (r:Ending) (w':World):Prop :=
 ∃ u:Tri,r=.returned (.tuple #[.agg #[.int .i64 u.1,.int .i64 u.2.1,.int .i64 u.2.2],.int .i64 (stopZ x L)])∧(stopZ x L=0→u=nextT x L)∧Below w.heap.size w w'
theorem next_bad (x:Nd) (hx:x.Small) (L:List Tri) (n c:Nat) (A:Option Addr) (hz:x.checkZ≠0) (w:World) (hT:zan w) :
  Calls Tryz.prog 44 #[.slice A n c,.agg x.val] w (NextPost x L w):=by
 have hst:stopZ x L=x.checkZ:=by unfold stopZ;rw [if_pos hz]
 have HST:=hid hst
 have HN:=hid (NxS.new x w)
 have HT:=hid hT
 have HX:=hid hx
 obtain⟨z,hzz⟩:∃ z,x.checkZ=z:=⟨_,rfl⟩
 have hz1:(z != 0)=true:=by rw [← hzz];simpa using hz
 have hz2:¬ z=0:=by rw [← hzz];exact hz
 have HZZ:=hid hzz
 clear hst hT hx hz hzz
 go_enter Tryz.func44,Tryz.ntmps44
 go_upto_region 1 with fail
 generalize (w.alloc (.cells x.val 61)).alloc (.cells #[.int .i64 0,.int .i64 0,.int .i64 0] 23)=W0 at HN ⊢
 go_wp2_with (first
  | (refine zac rfl _ rfl w.heap.size x rfl HN.out.1 ?_)
  | (go_at_call 56
     refine (zbi x HX.out _ (HT.out.below HN.out.2.2.1 HT.out.size)).mono ?_
     rintro e w1 ⟨rfl,hb⟩
     rw [HZZ.out]
     have HN1:=hid (HN.out.below hb)
     clear hb)
  | (refine wpList_store_mid rfl 23 _ _ rfl (w.heap.size+1) 0 #[.int .i64 0,.int .i64 0,.int .i64 0] rfl rfl HN1.out.2.1 info_shape (tri_one _ _ _) ?_
     have HRG:=hid (World.rangeAt_setCells_same w1 (w.heap.size+1) 0 (#[.int .i64 0,.int .i64 0,.int .i64 0]:Array Value).toList HN1.out.2.1)
     have HN3:=hid (HN1.out.stored (#[.int .i64 0,.int .i64 0,.int .i64 0]:Array Value))
     generalize w1.setCells (w.heap.size+1) 0 (#[.int .i64 0,.int .i64 0,.int .i64 0]:Array Value).toList=W3 at HN3 HRG ⊢))
 refine bodyPost_ret (Kit.zaa rfl _ _ (w.heap.size+1) 0 [.int .i64 0,.int .i64 0,.int .i64 0] _ rfl HRG.out Tryz.underlying23 rfl (by kernel_rfl)) rfl ?_
 exact⟨(0,0,0),by rw [HST.out,HZZ.out];rfl,(fun h=>by rw [HST.out,HZZ.out] at h;exact absurd h hz2),HN3.out.2.2.1⟩
theorem next_lost (x:Nd) (hx:x.Small) (L:List Tri) (n c:Nat) (hn:L.length=n) (hn1:n≤100) (A:Option Addr) (hz:x.checkZ=0) (ht:zbp x n=false) (w:World) (hT:zan w) :
  Calls Tryz.prog 44 #[.slice A n c,.agg x.val] w (NextPost x L w):=by
 have hst:stopZ x L=8:=by unfold stopZ;rw [if_neg (by simp [hz]),hn,if_pos ht]
 have HST:=hid hst
 have HN:=hid (NxS.new x w)
 have HT:=hid hT
 have HX:=hid hx
 have HZZ:=hid hz
 have he:earB (opL x) n=false:=by rw [ear_there,ht]
 have HE:=hid he
 have hol:(opL x).length≤1000:=by unfold opL;split <;> simp
 have HOL:=hid hol
 clear hst hT hx hz ht he hol hn
 go_enter Tryz.func44,Tryz.ntmps44
 go_upto_region 1 with fail
 generalize (w.alloc (.cells x.val 61)).alloc (.cells #[.int .i64 0,.int .i64 0,.int .i64 0] 23)=W0 at HN ⊢
 go_wp2_with (first
  | (refine zac rfl _ rfl w.heap.size x rfl HN2.out.1 ?_)
  | (refine zac rfl _ rfl w.heap.size x rfl HN1.out.1 ?_)
  | (refine zac rfl _ rfl w.heap.size x rfl HN.out.1 ?_)
  | (go_at_call 56
     refine (zbi x HX.out _ (HT.out.below HN.out.2.2.1 HT.out.size)).mono ?_
     rintro e w1 ⟨rfl,hb⟩
     rw [HZZ.out]
     have HN1:=hid (HN.out.below hb)
     clear hb)
  | (go_at_call 58
     refine (operands_to x _).mono ?_
     rintro e w2 ⟨bo,rfl, -,hr,hb⟩
     have HN2:=hid (HN1.out.below hb)
     have HRO:=hid hr
     clear hb hr)
  | (go_at_call 57
     refine (earlier_to (opL x) _ rfl HOL.out (n:Int) _ _ _ HRO.out).mono ?_
     rintro e w3 ⟨rfl,rfl⟩
     rw [HE.out])
  | (refine wpList_store_mid rfl 23 _ _ rfl (w.heap.size+1) 0 #[.int .i64 0,.int .i64 0,.int .i64 0] rfl rfl HN2.out.2.1 info_shape (tri_one _ _ _) ?_
     have HRG:=hid (World.rangeAt_setCells_same w2 (w.heap.size+1) 0 (#[.int .i64 0,.int .i64 0,.int .i64 0]:Array Value).toList HN2.out.2.1)
     have HN3:=hid (HN2.out.stored (#[.int .i64 0,.int .i64 0,.int .i64 0]:Array Value))
     generalize w2.setCells (w.heap.size+1) 0 (#[.int .i64 0,.int .i64 0,.int .i64 0]:Array Value).toList=W3 at HN3 HRG ⊢))
 refine bodyPost_ret (Kit.zaa rfl _ _ (w.heap.size+1) 0 [.int .i64 0,.int .i64 0,.int .i64 0] _ rfl HRG.out Tryz.underlying23 rfl (by kernel_rfl)) rfl ?_
 exact⟨(0,0,0),by rw [HST.out];rfl,(fun h=>by rw [HST.out] at h;exact absurd h (by decide)),HN3.out.2.2.1⟩
theorem next_yes (x:Nd) (hx:x.Small) (L:List Tri) (n c:Nat) (hn:L.length=n) (hn1:n≤100) (A:Option Addr) (hz:x.checkZ=0) (ht:zbp x n=true) (w:World) (hT:zan w) (hr:Kit.Rd w w.heap.size A (tvV L)) :
  Calls Tryz.prog 44 #[.slice A n c,.agg x.val] w (NextPost x L w):=by
 have HN:=hid (NxS.new x w)
 have HT:=hid hT
 have HX:=hid hx
 have HZZ:=hid hz
 have he:earB (opL x) n=true:=by rw [ear_there,ht]
 have HE:=hid he
 have hol:(opL x).length≤1000:=by unfold opL;split <;> simp
 have HOL:=hid hol
 have ht2:0≤x.na∧x.na < n∧(x.kd=6→0≤x.nb∧x.nb < n):=of_decide_eq_true ht
 have hnb:0≤x.nb∧x.nb < n:=by
  by_cases h6:x.kd=6
  ·exact ht2.2.2 h6
  ·have:=check_nb hz h6;omega
 obtain⟨ka,hka⟩:∃ ka:Nat,x.na=ka:=⟨x.na.toNat,by omega⟩
 obtain⟨kb,hkb⟩:∃ kb:Nat,x.nb=kb:=⟨x.nb.toNat,by omega⟩
 obtain⟨a,ha1,ha2⟩:=tvV_at (k:=ka) hn (by omega)
 obtain⟨b,hb1,hb2⟩:=tvV_at (k:=kb) hn (by omega)
 obtain⟨bl,o,rfl,hbl,hcell⟩:=tv_cells hr (by omega)
 obtain⟨u0,u1,u2,hu⟩:=x.sh_three a.1 a.2.1 a.2.2 b.1 b.2.1 b.2.2
 obtain⟨u,hue⟩:∃ u:Tri,u=(u0,u1,u2):=⟨_,rfl⟩
 obtain⟨e,hee⟩:∃ e,x.shE a.1 a.2.1 a.2.2 b.1 b.2.1 b.2.2=e:=⟨_,rfl⟩
 have hST:stopZ x L=e∧nextT x L=u:=by
  have h1:L.getD x.na.toNat tri0=a:=by rw [hka];exact ha2
  by_cases h6:x.kd=6
  ·have h2:L.getD (sndZ x).toNat tri0=b:=by unfold sndZ;rw [if_pos h6,hkb];exact hb2
   refine⟨?_,?_⟩
   ·unfold stopZ nextE;rw [if_neg (by simp [hz]),hn,if_neg (by simp [ht]),h1,h2];exact hee
   ·unfold nextT;rw [h1,h2,hu,hue];rfl
  ·obtain⟨i1,i2⟩:=sh_indep x h6 a.1 a.2.1 a.2.2 (L.getD (sndZ x).toNat tri0).1 (L.getD (sndZ x).toNat tri0).2.1 (L.getD (sndZ x).toNat tri0).2.2 b.1 b.2.1 b.2.2
   refine⟨?_,?_⟩
   ·unfold stopZ nextE;rw [if_neg (by simp [hz]),hn,if_neg (by simp [ht]),h1,i1];exact hee
   ·unfold nextT;rw [h1,i2,hu,hue];rfl
 have HST:=hid hST
 have CS:=hid (shape_to x a.1 a.2.1 a.2.2 b.1 b.2.1 b.2.2 e u.1 u.2.1 u.2.2 hee (by rw [hu,hue]))
 have i0:(0:Int)≤(ka:Int):=by omega
 have i1:(ka:Int) < (n:Int):=by omega
 have j0:(0:Int)≤(kb:Int):=by omega
 have j1:(kb:Int) < (n:Int):=by omega
 have hrA:=hcell ka a ha1
 have hrB:=hcell kb b hb1
 have HCA:Hid (∀ wS,Below w.heap.size w wS→wS.cell? ⟨bl,o+ka * 3,none⟩=some (.int .i64 a.1)∧wS.cell? ⟨bl,o+ka * 3+1,none⟩=some (.int .i64 a.2.1)∧wS.cell? ⟨bl,o+ka * 3+2,none⟩=some (.int .i64 a.2.2)) :=
  hid (fun wS h=>⟨(h.cell (p:=⟨bl,o+ka * 3,none⟩) hbl).trans (hrA 0 _ rfl),(h.cell (p:=⟨bl,o+ka * 3+1,none⟩) hbl).trans (hrA 1 _ rfl),(h.cell (p:=⟨bl,o+ka * 3+2,none⟩) hbl).trans (hrA 2 _ rfl)⟩)
 have HCB:Hid (∀ wS,Below w.heap.size w wS→wS.cell? ⟨bl,o+kb * 3,none⟩=some (.int .i64 b.1)∧wS.cell? ⟨bl,o+kb * 3+1,none⟩=some (.int .i64 b.2.1)∧wS.cell? ⟨bl,o+kb * 3+2,none⟩=some (.int .i64 b.2.2)) :=
  hid (fun wS h=>⟨(h.cell (p:=⟨bl,o+kb * 3,none⟩) hbl).trans (hrB 0 _ rfl),(h.cell (p:=⟨bl,o+kb * 3+1,none⟩) hbl).trans (hrB 1 _ rfl),(h.cell (p:=⟨bl,o+kb * 3+2,none⟩) hbl).trans (hrB 2 _ rfl)⟩)
 have hA1:Hid (x.val.toList[1]?=some (.int .i64 (ka:Int))):=hid (by rw [← hka];rfl)
 have hB1:Hid (x.val.toList[2]?=some (.int .i64 (kb:Int))):=hid (by rw [← hkb];rfl)
 clear hT hx hz ht he hol hn ht2 hnb hka hkb ha1 ha2 hb1 hb2 hr hbl hcell hu hue hee hST hrA hrB
 go_enter Tryz.func44,Tryz.ntmps44
 go_upto_region 1 with fail
 generalize (w.alloc (.cells x.val 61)).alloc (.cells #[.int .i64 0,.int .i64 0,.int .i64 0] 23)=W0 at HN ⊢
 go_upto_region 6 with (first
  | (refine zac rfl _ rfl w.heap.size x rfl HN2.out.1 ?_)
  | (refine zac rfl _ rfl w.heap.size x rfl HN1.out.1 ?_)
  | (refine zac rfl _ rfl w.heap.size x rfl HN.out.1 ?_)
  | (go_at_call 56
     refine (zbi x HX.out _ (HT.out.below HN.out.2.2.1 HT.out.size)).mono ?_
     rintro e w1 ⟨rfl,hb⟩
     rw [HZZ.out]
     have HN1:=hid (HN.out.below hb)
     clear hb)
  | (go_at_call 58
     refine (operands_to x _).mono ?_
     rintro e w2 ⟨bo,rfl, -,hr,hb⟩
     have HN2:=hid (HN1.out.below hb)
     have HRO:=hid hr
     clear hb hr)
  | (go_at_call 57
     refine (earlier_to (opL x) _ rfl HOL.out (n:Int) _ _ _ HRO.out).mono ?_
     rintro e w3 ⟨rfl,rfl⟩
     rw [HE.out]))
 ·have HN9:=hid (HN2.out.below (Below.refl _ w2).drew)
  clear HN HN1 HN2 HRO
  refine wp_region_held_drew (S:=NxS w x) (by kernel_rfl) HN9.out (fun hHeld=>?_)
  clear HN9
  generalize w2.drew=W1 at hHeld ⊢
  refine Tk.t 0 (v:=.agg x.val) rfl (zav _ rfl (by rfl) _ x rfl (fun _ h=>h.1)) (by assumption) ?_
  try simp only [Tk.put]
  refine Tk.x 1 rfl ?_
  try simp only [Tk.put]
  refine Tk.x 2 rfl ?_
  try simp only [Tk.put]
  refine Tk.y 3 (v:=.int .i64 (ka:Int)) rfl ?_ ?_
  ·intro wS hSw
   have q:=hSw.1.at 1 (.int .i64 (ka:Int)) hA1.out
   first | (go_simp;done) | (go_simp;with_reducible rfl)
  try simp only [Tk.put]
  refine Tk.x 4 rfl ?_
  try simp only [Tk.put]
  refine Tk.y 5 (v:=.agg #[.int .i64 a.1,.int .i64 a.2.1,.int .i64 a.2.2]) rfl ?_ ?_
  ·intro wS hSw
   obtain⟨q0,q1,q2⟩:=HCA.out wS hSw.2.2.1
   first | (go_simp;done) | (go_simp;with_reducible rfl)
  try simp only [Tk.put]
  refine Tk.x 6 rfl ?_
  try simp only [Tk.put]
  refine Tk.x 7 rfl ?_
  try simp only [Tk.put]
  refine Tk.y 8 (v:=.int .i64 (kb:Int)) rfl ?_ ?_
  ·intro wS hSw
   have q:=hSw.1.at 2 (.int .i64 (kb:Int)) hB1.out
   first | (go_simp;done) | (go_simp;with_reducible rfl)
  try simp only [Tk.put]
  refine Tk.x 9 rfl ?_
  try simp only [Tk.put]
  refine Tk.y 10 (v:=.agg #[.int .i64 b.1,.int .i64 b.2.1,.int .i64 b.2.2]) rfl ?_ ?_
  ·intro wS hSw
   obtain⟨q0,q1,q2⟩:=HCB.out wS hSw.2.2.1
   first | (go_simp;done) | (go_simp;with_reducible rfl)
  try simp only [Tk.put]
  refine Tk.s 11 rfl (fun Kq hK=>?_)
  go_simp
  go_at_call 59
  refine (CS.out _).mono ?_
  rintro e W2 ⟨rfl,hb⟩
  have hS2:=hHeld.below hb
  clear hHeld hb
  dsimp only
  refine hK.out _ _ hS2 (fun hHeld=>?_)
  clear hK Kq hS2
  try simp only [Tk.put]
  refine Tk.x 12 rfl ?_
  try simp only [Tk.put]
  refine Tk.x 13 rfl ?_
  try simp only [Tk.put]
  refine Tk.s 14 rfl (fun Kq hK=>?_)
  rw [if_pos (by rfl)]
  refine wp_store_mid 23 _ _ rfl (w.heap.size+1) 0 #[.int .i64 u.1,.int .i64 u.2.1,.int .i64 u.2.2] rfl rfl hHeld.2.1 info_shape (tri_one _ _ _) ?_
  have hS3:=hHeld.stored (#[.int .i64 u.1,.int .i64 u.2.1,.int .i64 u.2.2]:Array Value)
  have HRG:=hid (World.rangeAt_setCells_same W2 (w.heap.size+1) 0 (#[.int .i64 u.1,.int .i64 u.2.1,.int .i64 u.2.2]:Array Value).toList hHeld.2.1)
  clear hHeld
  generalize W2.setCells (w.heap.size+1) 0 (#[.int .i64 u.1,.int .i64 u.2.1,.int .i64 u.2.2]:Array Value).toList=W3 at hS3 HRG ⊢
  refine hK.out _ _ hS3 (fun hHeld=>?_)
  clear hK Kq hS3
  try simp only [Tk.put]
  refine Tk.x 15 rfl ?_
  try simp only [Tk.put]
  refine wpAnyH_done (by kernel_rfl) ?_ _
  go_wp2_with fail
  refine bodyPost_ret (Kit.zaa rfl _ _ (w.heap.size+1) 0 [.int .i64 u.1,.int .i64 u.2.1,.int .i64 u.2.2] _ rfl HRG.out Tryz.underlying23 rfl (by kernel_rfl)) rfl ?_
  exact⟨u,by rw [HST.out.1];rfl,fun _=>HST.out.2.symm,hHeld.2.2.1⟩
theorem next_to (x:Nd) (hx:x.Small) (L:List Tri) (n c:Nat) (hn:L.length=n) (hn1:n≤100) (A:Option Addr) (w:World) (hT:zan w) (hr:Kit.Rd w w.heap.size A (tvV L)) :
  Calls Tryz.prog 44 #[.slice A n c,.agg x.val] w (NextPost x L w):=by
 by_cases hz:x.checkZ=0
 ·cases ht:zbp x n with
  | false=>exact next_lost x hx L n c hn hn1 A hz ht w hT
  | true=>exact next_yes x hx L n c hn hn1 A hz ht w hT hr
 ·exact next_bad x hx L n c A hz w hT
end CGraph
end
section
namespace CSpan
open Plain CSat CFix CShape CTensor CConv
theorem chld_to (a m s z lo hi t:Int) (hm1 : -2147483648≤m) (hm2:m≤2147483647) (hz1 : -128≤z) (hz2:z≤127) (hl1 : -128≤lo) (hl2:lo≤127) (hh1 : -128≤hi) (hh2:hi≤127) (ht:heldZ (c32 a) m s z lo hi=t) (w:World) :
  Calls Tryz.prog 100 #[.int .i64 a,.agg #[.int .i32 m,.int .i64 s,.int .i8 z],.int .i8 lo,.int .i8 hi] w fun e w'=>e=.returned (.int .i8 t)∧Below w.heap.size w w':=by
 obtain⟨a1,a2⟩:=c32_bd a
 obtain⟨ma,hma⟩:∃ x,(if a < -2147483648 then -2147483648 else a)=x:=⟨_,rfl⟩
 have hca:(if 2147483647 < ma then 2147483647 else ma)=c32 a:=by rw [← hma,max_ite,min_ite];rfl
 generalize c32 a=ca at *
 have e1:IntKind.i32.wrap ca=ca:=IntWalk.i32_in _ (by omega)
 have c1:=fun (w:World)=>held ca m s z lo hi a1 a2 hm1 hm2 hz1 hz2 hl1 hl2 hh1 hh2 w
 rw [ht] at c1
 have C1:=hid c1
 have hal:Below w.heap.size w (w.alloc (.cells #[.int .i32 m,.int .i64 s,.int .i8 z] 59)):=(Below.refl _ _).alloc (le_refl _) _
 have HAL:=hid hal
 clear ht c1 hal
 go_enter Tryz.func100,Tryz.ntmps100
 go_wp2_with (go_at_call 95;(refine (C1.out _).mono ?_);rintro e w1 ⟨rfl,hb⟩)
 go_ret
 exact⟨rfl,HAL.out.trans (hb.mono HAL.out.size)⟩
def AftAt (g:Nat) (a b m s z:Int) (w:World):Prop :=
 (w.cell? ⟨g,0,none⟩=some (.int .i64 a)∧w.cell? ⟨g,1,none⟩=some (.int .i64 b))∧(w.cell? ⟨g+1,0,none⟩=some (.int .i32 m)∧w.cell? ⟨g+1,1,none⟩=some (.int .i64 s)∧w.cell? ⟨g+1,2,none⟩=some (.int .i8 z))
theorem AftAt.below {g:Nat} {a b m s z:Int} {w w':World} (h:AftAt g a b m s z w) {B:Nat} (hB:g+1 < B) (hb:Below B w w'):AftAt g a b m s z w':=by
 obtain⟨⟨h1,h2⟩,h3,h4,h5⟩:=h
 exact⟨⟨(hb.cell (p:=⟨g,0,none⟩) (by show g < B;omega)).trans h1,(hb.cell (p:=⟨g,1,none⟩) (by show g < B;omega)).trans h2⟩,(hb.cell (p:=⟨g+1,0,none⟩) hB).trans h3,(hb.cell (p:=⟨g+1,1,none⟩) hB).trans h4,(hb.cell (p:=⟨g+1,2,none⟩) hB).trans h5⟩
theorem AftAt.new (a b m s z:Int) (w:World):AftAt w.heap.size a b m s z ((w.alloc (.cells #[.int .i64 a,.int .i64 b] 144)).alloc (.cells #[.int .i32 m,.int .i64 s,.int .i8 z] 59)):=by
 have k0:∀ j,(w.alloc (.cells #[.int .i64 a,.int .i64 b] 144)).cell? ⟨w.heap.size,j,none⟩=(#[.int .i64 a,.int .i64 b]:Array Value)[j]?:=fun j=>Kit.zal _ _ _ _
 have s1:(w.alloc (.cells #[.int .i64 a,.int .i64 b] 144)).heap.size=w.heap.size+1:=by simp
 have k1:∀ j,((w.alloc (.cells #[.int .i64 a,.int .i64 b] 144)).alloc (.cells #[.int .i32 m,.int .i64 s,.int .i8 z] 59)).cell? ⟨w.heap.size+1,j,none⟩=(#[.int .i32 m,.int .i64 s,.int .i8 z]:Array Value)[j]?:=fun j=>by
  rw [← s1];exact Kit.zal _ _ _ _
 exact⟨⟨(World.cell?_alloc_lt _ _ _ (by simp)).trans (k0 0),(World.cell?_alloc_lt _ _ _ (by simp)).trans (k0 1)⟩,k1 0,k1 1,k1 2⟩
theorem cafter_to (a b m s z lo hi:Int) (ha1 : -9223372036854775808≤a) (ha2:a≤9223372036854775807) (hb1 : -9223372036854775808≤b) (hb2:b≤9223372036854775807) (hm1 : -2147483648≤m) (hm2:m≤2147483647) (hz1 : -128≤z) (hz2:z≤127) (hl1 : -128≤lo) (hl2:lo≤127) (hh1 : -128≤hi) (hh2:hi≤127) (w:World) :
  Calls Tryz.prog 90 #[.agg #[.int .i64 a,.int .i64 b],.agg #[.int .i32 m,.int .i64 s,.int .i8 z],.int .i8 lo,.int .i8 hi] w fun e w' =>
   e=.returned (.tuple #[.int .i8 (min (heldZ (c32 a) m s z lo hi) (heldZ (c32 b) m s z lo hi)),.int .i8 (max (heldZ (c32 a) m s z lo hi) (heldZ (c32 b) m s z lo hi))])∧Below w.heap.size w w':=by
 obtain⟨x,hx⟩:∃ x,heldZ (c32 a) m s z lo hi=x:=⟨_,rfl⟩
 obtain⟨y,hy⟩:∃ y,heldZ (c32 b) m s z lo hi=y:=⟨_,rfl⟩
 have k1:=min_ite x y
 have k2:=max_ite x y
 have C1:=hid (fun (w:World)=>chld_to a m s z lo hi x hm1 hm2 hz1 hz2 hl1 hl2 hh1 hh2 hx w)
 have C2:=hid (fun (w:World)=>chld_to b m s z lo hi y hm1 hm2 hz1 hz2 hl1 hl2 hh1 hh2 hy w)
 rw [hx,hy]
 generalize min x y=mn at *
 generalize max x y=mx at *
 have TN:=hid (AftAt.new a b m s z w)
 have HBW:=hid (((Below.refl w.heap.size w).alloc (le_refl _) (.cells #[.int .i64 a,.int .i64 b] 144)).alloc (by simp) (.cells #[.int .i32 m,.int .i64 s,.int .i8 z] 59))
 have yTN:w.heap.size+1 < ((w.alloc (.cells #[.int .i64 a,.int .i64 b] 144)).alloc (.cells #[.int .i32 m,.int .i64 s,.int .i8 z] 59)).heap.size:=by simp
 have HY:=hid yTN
 clear hx hy yTN
 go_enter Tryz.func90,Tryz.ntmps90
 go_upto_region 1 with fail
 generalize (w.alloc (.cells #[.int .i64 a,.int .i64 b] 144)).alloc (.cells #[.int .i32 m,.int .i64 s,.int .i8 z] 59)=W0 at TN HBW HY ⊢
 refine wp_region_held_drew (S:=AftAt w.heap.size a b m s z) (by kernel_rfl) TN.out (fun hHeld=>?_)
 replace HBW:=hid HBW.out.drew
 replace HY:Hid (w.heap.size+1 < W0.drew.heap.size):=hid HY.out
 clear TN
 generalize W0.drew=W1 at HBW HY hHeld ⊢
 refine Tk.x 0 rfl ?_
 try simp only [Tk.put]
 refine Tk.y 1 (v:=?_) rfl ?_ ?_
 rotate_left
 ·intro wS hSw
  obtain⟨⟨q1,q2⟩,q3,q4,q5⟩:=hSw
  first | (go_simp;done) | (go_simp;with_reducible rfl)
 try simp only [Tk.put]
 refine Tk.y 2 (v:=?_) rfl ?_ ?_
 rotate_left
 ·intro wS hSw
  obtain⟨⟨q1,q2⟩,q3,q4,q5⟩:=hSw
  first | (go_simp;done) | (go_simp;with_reducible rfl)
 try simp only [Tk.put]
 refine Tk.x 3 rfl ?_
 try simp only [Tk.put]
 refine Tk.x 4 rfl ?_
 try simp only [Tk.put]
 refine Tk.x 6 rfl ?_
 try simp only [Tk.put]
 refine Tk.y 7 (v:=?_) rfl ?_ ?_
 rotate_left
 ·intro wS hSw
  obtain⟨⟨q1,q2⟩,q3,q4,q5⟩:=hSw
  first | (go_simp;done) | (go_simp;with_reducible rfl)
 try simp only [Tk.put]
 refine Tk.y 8 (v:=?_) rfl ?_ ?_
 rotate_left
 ·intro wS hSw
  obtain⟨⟨q1,q2⟩,q3,q4,q5⟩:=hSw
  first | (go_simp;done) | (go_simp;with_reducible rfl)
 try simp only [Tk.put]
 refine Tk.x 9 rfl ?_
 try simp only [Tk.put]
 refine Tk.x 10 rfl ?_
 try simp only [Tk.put]
 refine Tk.s 5 rfl (fun Kq hK=>?_)
 go_simp
 go_at_call 100
 refine (C1.out _).mono ?_
 rintro e W2 ⟨rfl,hb1⟩
 have hS1:AftAt w.heap.size a b m s z W2:=hHeld.below HY.out hb1
 replace HBW:=hid (HBW.out.trans (hb1.mono HBW.out.size))
 replace HY:=hid (Nat.lt_of_lt_of_le HY.out hb1.size)
 clear hHeld hb1
 dsimp only
 refine hK.out _ _ ?_ (fun hHeld=>?_)
 ·exact hS1
 clear hK Kq
 try simp only [Tk.put]
 refine Tk.s 11 rfl (fun Kq hK=>?_)
 go_simp
 go_at_call 100
 refine (C2.out _).mono ?_
 rintro e W3 ⟨rfl,hb1⟩
 have hS1:AftAt w.heap.size a b m s z W3:=hHeld.below HY.out hb1
 replace HBW:=hid (HBW.out.trans (hb1.mono HBW.out.size))
 replace HY:=hid (Nat.lt_of_lt_of_le HY.out hb1.size)
 clear hHeld hb1
 dsimp only
 refine hK.out _ _ ?_ (fun hHeld=>?_)
 ·exact hS1
 clear hK Kq
 try simp only [Tk.put]
 refine Tk.x 12 rfl ?_
 try simp only [Tk.put]
 refine Tk.x 13 rfl ?_
 try simp only [Tk.put]
 refine wpAnyH_done (by kernel_rfl) ?_ _
 go_wp2_with fail
 refine bodyPost_ret (res_2 rfl _ _ _) rfl ?_
 exact⟨rfl,HBW.out⟩
end CSpan
end
end Go.Proofs.YtoffcaldhojjoaaGreatDoor
