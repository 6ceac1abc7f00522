/- -/
import Derived.Test.YtahekhpeomcfjaaGreatDoorGJ35
open Go.Lib (hid)
open Nat (le_refl lt_of_succ_lt lt_succ_self)
set_option linter.unusedVariables false
set_option linter.unusedSimpArgs false
set_option maxRecDepth 100000
set_option maxHeartbeats 16000000
namespace Go.Proofs.YtahekhpeomcfjaaGreatDoor
namespace CConv
end CConv
namespace CDense
end CDense
namespace CDepth
end CDepth
namespace CFix
end CFix
namespace CKind
end CKind
namespace CSat
end CSat
namespace CShape
end CShape
namespace CTensor
end CTensor
open Go Go.ChangeShapes Go.WideShapes Go.ChangeAt Go.RowKit Go.Deep
section
namespace CGraph
open Plain CSat CFix CShape CTensor CConv CDense CDepth CKind
abbrev Tri:=Int × Int × Int
def triA (a:Array Value):Tri:=(intOf (a.getD 0 undef),intOf (a.getD 1 undef),intOf (a.getD 2 undef))
def sndZ (x:Nd):Int:=if x.kd=6 then x.nb else x.na
def zcb (x:Nd) (many:Nat):Bool:=decide (0≤x.na∧x.na < many∧(x.kd=6→0≤x.nb∧x.nb < many))
def tri0:Tri:=(0,0,0)
def nextE (x:Nd) (l:List Tri):Int :=
 x.shE (l.getD x.na.toNat tri0).1 (l.getD x.na.toNat tri0).2.1 (l.getD x.na.toNat tri0).2.2 (l.getD (sndZ x).toNat tri0).1 (l.getD (sndZ x).toNat tri0).2.1 (l.getD (sndZ x).toNat tri0).2.2
def nextT (x:Nd) (l:List Tri):Tri :=
 triA (x.shV (l.getD x.na.toNat tri0).1 (l.getD x.na.toNat tri0).2.1 (l.getD x.na.toNat tri0).2.2 (l.getD (sndZ x).toNat tri0).1 (l.getD (sndZ x).toNat tri0).2.1 (l.getD (sndZ x).toNat tri0).2.2)
def stopZ (x:Nd) (l:List Tri):Int:=if x.checkZ≠0 then x.checkZ else if zcb x l.length=false then 8 else nextE x l
def shL (X:Nat→Nd) (t0:Tri):Nat→List Tri
 | 0=>[t0]
 | k+1=>shL X t0 k ++ [nextT (X k) (shL X t0 k)]
theorem shL_len (X:Nat→Nd) (t0:Tri) (k:Nat):(shL X t0 k).length=k+1:=by
 induction k with
 | zero=>rfl
 | succ k ih=>simp [shL,ih]
def zbh (X:Nat→Nd) (t0:Tri):Nat→Option (Nat × Int)
 | 0=>none
 | k+1=>match zbh X t0 k with
   | some r=>some r
   | none=>if stopZ (X k) (shL X t0 k)=0 then none else some (k,stopZ (X k) (shL X t0 k))
theorem stopAt_go {X:Nat→Nd} {t0:Tri} {k:Nat} (h:zbh X t0 k=none) (hz:stopZ (X k) (shL X t0 k)=0):zbh X t0 (k+1)=none:=by
 simp [zbh,h,hz]
theorem stopAt_end {X:Nat→Nd} {t0:Tri} {k n:Nat} (hk:k < n) (h:zbh X t0 k=none) (hz:stopZ (X k) (shL X t0 k)≠0):zbh X t0 n=some (k,stopZ (X k) (shL X t0 k)):=by
 obtain⟨d,rfl⟩:∃ d,n=k+1+d:=⟨n - (k+1),by omega⟩
 clear hk
 induction d with
 | zero=>simp [zbh,h,hz]
 | succ d ih=>rw [show k+1+(d+1)=(k+1+d)+1 by omega,zbh,ih]
theorem check_nb {x:Nd} (h:x.checkZ=0) (hk:x.kd≠6):x.nb=0:=by
 have h1:x.moreB=false:=by
  unfold Nd.checkZ at h
  by_cases a:x.kd < 1∨9 < x.kd
  ·rw [if_pos a] at h;omega
  ·rw [if_neg a] at h
   cases e:x.moreB with
   | false=>rfl
   | true=>rw [e] at h;simp at h
 unfold Nd.moreB at h1
 simp only [Bool.or_eq_false_iff,Bool.and_eq_false_iff] at h1
 have h2:=h1.1.1.1.2
 rcases h2 with h2 | h2
 ·exact absurd (by simpa using h2) hk
 ·simpa using h2.1.1.1
theorem sh_indep (x:Nd) (hk:x.kd≠6) (H W C a b c a' b' c':Int):x.shE H W C a b c=x.shE H W C a' b' c'∧x.shV H W C a b c=x.shV H W C a' b' c':=by
 have e:x.shE H W C a b c=x.shE H W C a' b' c':=by
  unfold Nd.shE
  simp only [hk,false_and,if_false]
 refine⟨e,?_⟩
 unfold Nd.shV
 rw [e]
def opL (x:Nd):List Int:=if x.kd=6 then [x.na,x.nb] else [x.na]
def earB:List Int→Int→Bool
 | [],_=>true
 | v :: r,m=>decide (0≤v∧v < m) && earB r m
theorem ear_there (x:Nd) (many:Nat):earB (opL x) many=zcb x many:=by
 unfold opL zcb
 by_cases h:x.kd=6
 ·rw [if_pos h];simp [earB,h];rw [Bool.eq_iff_iff];simp;omega
 ·rw [if_neg h];simp [earB,h]
def lastN (X:Nat→Nd) (v:Nat):Nat→Int
 | 0=>0
 | k+1=>if zcb (X k) (k+1)=true∧((X k).na=v∨sndZ (X k)=v) then (k:Int)+1 else lastN X v k
def lastZ (X:Nat→Nd) (n v:Nat):Int:=if v=n then (n:Int)+1 else lastN X v n
def tvV:List Tri→List Value
 | []=>[]
 | a :: r=>.int .i64 a.1 :: .int .i64 a.2.1 :: .int .i64 a.2.2 :: tvV r
theorem tvV_len:∀ L,(tvV L).length=L.length * 3
 | []=>rfl
 | a :: r=>by simp [tvV,tvV_len r];omega
theorem tvV_append:∀ L M,tvV (L ++ M)=tvV L ++ tvV M
 | [],M=>rfl
 | a :: r,M=>by simp [tvV,tvV_append r M]
theorem tvV_get:∀ (L:List Tri) (k:Nat) (a:Tri),L[k]?=some a→(tvV L)[k * 3]?=some (.int .i64 a.1)∧(tvV L)[k * 3+1]?=some (.int .i64 a.2.1)∧(tvV L)[k * 3+2]?=some (.int .i64 a.2.2)
 | [],k,a,h=>by simp at h
 | b :: r,0,a,h=>by simp at h;subst h;simp [tvV]
 | b :: r,k+1,a,h=>by
   obtain⟨h1,h2,h3⟩:=tvV_get r k a (by simpa using h)
   rw [show (k+1) * 3=k * 3+1+1+1 by omega,tvV]
   refine⟨?_,?_,?_⟩
   ·simpa using h1
   ·rw [show k * 3+1+1+1+1=(k * 3+1)+1+1+1 by omega];simpa using h2
   ·rw [show k * 3+1+1+1+2=(k * 3+2)+1+1+1 by omega];simpa using h3
theorem tv_cells {w:World} {B:Nat} {A:Option Addr} {L:List Tri} (h:Kit.Rd w B A (tvV L)) (hn:0 < L.length) :
  ∃ b o,A=some ⟨b,o,none⟩∧b < B∧∀ k a,L[k]?=some a→w.rangeAt b (o+k * 3) [.int .i64 a.1,.int .i64 a.2.1,.int .i64 a.2.2]:=by
 obtain⟨b,o,e,hb,hc⟩:=h.plain (by rw [tvV_len];omega)
 refine⟨b,o,e,hb,fun k a hk q v hq=>?_⟩
 obtain⟨h1,h2,h3⟩:=tvV_get L k a hk
 match q,hq with
 | 0,hq=>simp at hq;subst hq;exact hc (k * 3) _ h1
 | 1,hq=>simp at hq;subst hq;rw [Nat.add_assoc];exact hc (k * 3+1) _ h2
 | 2,hq=>simp at hq;subst hq;rw [Nat.add_assoc];exact hc (k * 3+2) _ h3
theorem NodesAt.below {w w':World} {B:Nat} {A:Option Addr} {n:Nat} {X:Nat→Nd} (h:NodesAt w B A n X) (hb:Below B w w'):NodesAt w' B A n X:=fun j hj=>by
 obtain⟨b,o,e,h1,h2⟩:=h j hj
 exact⟨b,o,e,h1,fun q v hq=>(hb.cell (p:=⟨b,o+j * 19+q,none⟩) h1).trans (h2 q v hq)⟩
theorem NodesAt.more {w:World} {B B':Nat} {A:Option Addr} {n:Nat} {X:Nat→Nd} (h:NodesAt w B A n X) (hb:B≤B'):NodesAt w B' A n X:=fun j hj=>by
 obtain⟨b,o,e,h1,h2⟩:=h j hj
 exact⟨b,o,e,Nat.lt_of_lt_of_le h1 hb,h2⟩
end CGraph
end
section
namespace CGraph
open Plain CSat CFix CShape CTensor CConv CKind
def i64V (L:List Int):List Value:=L.map (.int .i64)
theorem kd6 {x:Nd} (h:x.kd=6):(x.kd == 6)=true∧(x.kd != 6)=false:=by simp [h]
theorem kd6n {x:Nd} (h:¬ x.kd=6):(x.kd == 6)=false∧(x.kd != 6)=true:=by simp [h]
theorem zcy (x:Nd) (w:World):Calls Tryz.prog 22 #[.agg x.val] w fun e w'=>∃ b,e=.returned (.slice (some ⟨b,0,none⟩) (opL x).length (opL x).length)∧w.heap.size≤b∧Kit.Rd w' w'.heap.size (some ⟨b,0,none⟩) (i64V (opL x))∧Below w.heap.size w w':=by
 have TN:=NdAt.new x 44 w
 have HB0:=(Below.refl w.heap.size w).alloc (le_refl _) (.cells x.val 44)
 have c0:=TN.at 0 _ rfl
 have c1:=TN.at 1 _ rfl
 have c2:=TN.at 2 _ rfl
 have HB:=hid HB0
 clear TN HB0
 by_cases h:x.kd=6
 ·obtain⟨h1,h2⟩:=kd6 h
  have e:opL x=[x.na,x.nb]:=by unfold opL;rw [if_pos h]
  rw [e]
  clear e h
  go_enter Tryz.func22,Tryz.ntmps22
  go_upto_region 1 with fail
  generalize w.alloc (.cells x.val 44)=W0 at c0 c1 c2 HB ⊢
  go_wp2_with fail
  go_ret
  exact⟨_,rfl,HB.out.size,Kit.Rd.new _ [.int .i64 x.na,.int .i64 x.nb] _ (by simp),HB.out.alloc HB.out.size _⟩
 ·obtain⟨h1,h2⟩:=kd6n h
  have e:opL x=[x.na]:=by unfold opL;rw [if_neg h]
  rw [e]
  clear e h
  go_enter Tryz.func22,Tryz.ntmps22
  go_upto_region 1 with fail
  generalize w.alloc (.cells x.val 44)=W0 at c0 c1 c2 HB ⊢
  go_wp2_with fail
  go_ret
  exact⟨_,rfl,HB.out.size,Kit.Rd.new _ [.int .i64 x.na] _ (by simp),HB.out.alloc HB.out.size _⟩
theorem earB_iff:∀ (l:List Int) (m:Int),earB l m=true↔∀ (k:Nat) (z:Int),l[k]?=some z→0≤z∧z < m
 | [],m=>by simp [earB]
 | v :: r,m=>by
   simp only [earB,Bool.and_eq_true,decide_eq_true_eq,earB_iff r m]
   constructor
   ·rintro⟨h1,h2⟩ k z hk
    cases k with
    | zero=>simp at hk;subst hk;exact h1
    | succ k=>exact h2 k z (by simpa using hk)
   ·intro h
    exact⟨h 0 v rfl,fun k z hk=>h (k+1) z (by simpa using hk)⟩
theorem earB_no {l:List Int} {m:Int} {k:Nat} {z:Int} (hk:l[k]?=some z) (h:¬ (0≤z∧z < m)):earB l m=false:=by
 cases e:earB l m with
 | false=>rfl
 | true=>exact absurd ((earB_iff l m).1 e k z hk) h
def AheadZ (l:List Int) (m:Int) (k:Nat):Prop:=∀ (j:Nat) (z:Int),j < k→l[j]?=some z→0≤z∧z < m
theorem earlier_to (l:List Int) (n:Nat) (hn:l.length=n) (hn1:n≤1000) (m:Int) (A:Option Addr) (c:Nat) (w:World) {B:Nat} (hr:Kit.Rd w B A (i64V l)):Calls Tryz.prog 23 #[.slice A n c,.int .i64 m] w fun e w'=>e=.returned (.bool (earB l m))∧w=w':=by
 have HR:=hid hr
 have HN:=hid hn
 clear hr hn
 go_enter Tryz.func23,Tryz.ntmps23
 go_wp2_with fail
 go_loop [9] (fun u=>∃ k:Nat,k≤n∧u=.int .i64 k∧Hid (AheadZ l m k)) (fun u=>n - (intOf u).toNat)
 case atStart=>exact⟨0,Nat.zero_le _,rfl,hid (fun j z hj=>absurd hj (Nat.not_lt_zero _))⟩
 case round =>
  obtain⟨k,hk,rfl,hi⟩:=hrel
  by_cases hlt:k < n
  ·have hkl:k < l.length:=by have:=HN.out;omega
   obtain⟨b,o,rfl, -,h1⟩:=HR.out.plain (by rw [i64V,List.length_map];omega)
   obtain⟨z,hz⟩:∃ z,l[k]?=some z:=⟨_,List.getElem?_eq_getElem hkl⟩
   have c1:=h1 k (.int .i64 z) (by simp [i64V,hz])
   have k0:(0:Int)≤(k:Int):=by omega
   have k1:(k:Int) < (n:Int):=by omega
   clear h1
   by_cases hok:0≤z∧z < m
   ·have hz1:¬ z < 0:=by omega
    have hz2:¬ z ≥ m:=by omega
    have hs:AheadZ l m (k+1):=fun j y hj hy=>by
     rcases Nat.lt_succ_iff_lt_or_eq.1 hj with h | rfl
     ·exact hi.out j y h hy
     ·rw [hz] at hy;cases hy;exact hok
    have HS:=hid hs
    clear hi hs hok hz
    go_wp2_with fail
    go_round
    case rel=>exact⟨k+1,by omega,by go_num,HS⟩
    case measure=>simp [intOf];omega
   ·have hf:=earB_no hz hok
    have HF:=hid hf
    clear hi hf hz
    by_cases hz1:z < 0
    ·clear hok
     go_wp2_with fail
     go_ret
     exact⟨by rw [HF.out];rfl,rfl⟩
    ·have hz2:z ≥ m:=by omega
     clear hok
     go_wp2_with fail
     go_ret
     exact⟨by rw [HF.out];rfl,rfl⟩
  ·obtain rfl:k=n:=by omega
   have hy:earB l m=true:=(earB_iff l m).2 fun j z hz=>hi.out j z (by have:=(List.getElem?_eq_some_iff.1 hz).1;have:=HN.out;omega) hz
   have HY:=hid hy
   clear hi hy
   go_wp2_with fail
   go_ret
   exact⟨by rw [HY.out];rfl,rfl⟩
end CGraph
end
section
namespace CKind
open Plain CSat CShape CTensor CConv
def Nd.Small (x:Nd):Prop:=(-128≤x.Z∧x.Z≤127)∧(-128≤x.Y∧x.Y≤127)∧(-128≤x.lo∧x.lo≤127)∧(-128≤x.hi∧x.hi≤127)
def Nd.nine (x:Nd):Array Value:=#[.int .i64 x.nb,.int .i64 x.K,.int .i64 x.S,.int .i64 x.P,.int .i64 x.O,.int .i64 x.Z,.int .i64 x.Y,.int .i64 x.lo,.int .i64 x.hi]
theorem there_new9 (w:World) {cs:Array Value} (T:TypeId) {n:Nat} (h:cs.size=n):(w.alloc (.cells cs T)).there w.heap.size 0 n:=fun j hj=>by
 rw [Nat.zero_add]
 constructor
 ·rw [Kit.zaf]
  simp [h,hj]
 ·unfold World.frozen?;rw [heap_alloc_new];rfl
theorem setCells_below {g B:Nat} (hg:B≤g):∀ (vs:List Value) (o:Nat) (w:World),Below B w (w.setCells g o vs)
 | [],_,w=>Below.refl _ _
 | v :: vs,o,w=>((Below.refl B w).setCell (p:=⟨g,o,none⟩) hg v).trans (setCells_below hg vs (o+1) _)
theorem numbers_to (x:Nd) (hx:x.Small) (w:World) :
  Calls Tryz.prog 111 #[.agg x.val] w fun e w'=>e=.returned (.agg x.nine)∧Below w.heap.size w w':=by
 obtain⟨⟨z0,z1⟩,⟨y0,y1⟩,⟨l0,l1⟩,⟨h0,h1⟩⟩:=hx
 have i7:IntKind.i64.wrap x.Z=x.Z:=IntWalk.i64_in _ (by omega)
 have i8:IntKind.i64.wrap x.Y=x.Y:=IntWalk.i64_in _ (by omega)
 have i17:IntKind.i64.wrap x.lo=x.lo:=IntWalk.i64_in _ (by omega)
 have i18:IntKind.i64.wrap x.hi=x.hi:=IntWalk.i64_in _ (by omega)
 clear z0 z1 y0 y1 l0 l1 h0 h1
 have TN:=hid (NdAt.new x 44 w)
 go_enter Tryz.func111,Tryz.ntmps111
 go_upto_region 1 with fail
 have hth:=there_new9 (w.alloc (.cells x.val 44)) (cs:=#[.int .i64 0,.int .i64 0,.int .i64 0,.int .i64 0,.int .i64 0,.int .i64 0,.int .i64 0,.int .i64 0,.int .i64 0]) 154 (n:=9) rfl
 rw [World.size_alloc] at hth
 have HT:=hid hth
 clear hth
 replace TN:=hid (TN.out.below (B:=w.heap.size+1) (lt_succ_self _) ((Below.refl _ _).alloc (by simp) (.cells #[.int .i64 0,.int .i64 0,.int .i64 0,.int .i64 0,.int .i64 0,.int .i64 0,.int .i64 0,.int .i64 0,.int .i64 0] 154)))
 have HB:=hid (((Below.refl w.heap.size w).alloc (le_refl _) (.cells x.val 44)).alloc (by simp) (.cells #[.int .i64 0,.int .i64 0,.int .i64 0,.int .i64 0,.int .i64 0,.int .i64 0,.int .i64 0,.int .i64 0,.int .i64 0] 154))
 generalize (w.alloc (.cells x.val 44)).alloc (.cells #[.int .i64 0,.int .i64 0,.int .i64 0,.int .i64 0,.int .i64 0,.int .i64 0,.int .i64 0,.int .i64 0,.int .i64 0] 154)=W0 at TN HT HB ⊢
 have n2:=TN.out.at 2 (.int .i64 x.nb) rfl
 have n3:=TN.out.at 3 (.int .i64 x.K) rfl
 have n4:=TN.out.at 4 (.int .i64 x.S) rfl
 have n5:=TN.out.at 5 (.int .i64 x.P) rfl
 have n6:=TN.out.at 6 (.int .i64 x.O) rfl
 have n7:=TN.out.at 7 (.int .i8 x.Z) rfl
 have n8:=TN.out.at 8 (.int .i8 x.Y) rfl
 have n17:=TN.out.at 17 (.int .i8 x.lo) rfl
 have n18:=TN.out.at 18 (.int .i8 x.hi) rfl
 go_wp2_with (refine wpList_store_mid rfl 154 (.tmp 2) (.tmp 25) rfl (w.heap.size+1) 0 x.nine rfl rfl HT.out (by kernel_rfl) (by simp [Nd.nine,Value.oneCell']) ?_;have HQ:=hid (World.rangeAt_setCells_same W0 (w.heap.size+1) 0 x.nine.toList HT.out);have HZ:Hid (Below w.heap.size W0 (W0.setCells (w.heap.size+1) 0 x.nine.toList)):=hid (setCells_below (Nat.le_succ _) _ _ _);generalize W0.setCells (w.heap.size+1) 0 x.nine.toList=W1 at HQ HZ ⊢)
 refine bodyPost_ret (Kit.za6 rfl _ _ (w.heap.size+1) 0 x.nine.toList _ rfl HQ.out Tryz.underlying154 rfl (by kernel_rfl)) rfl ?_
 exact⟨rfl,HB.out.trans HZ.out⟩
def nineB (x y:Nd):Bool:=x.nb == y.nb && x.K == y.K && x.S == y.S && x.P == y.P && x.O == y.O && x.Z == y.Z && x.Y == y.Y && x.lo == y.lo && x.hi == y.hi
theorem eqNine (x y:Nd) (b:Bool) (hb:nineB x y=b) (w:World):(Op.equalIn 10000 154 (.agg x.nine) (.agg y.nine)).run Tryz.prog w=.ok b w:=by
 subst hb
 have u3:=Tryz.underlying3
 have a3:=Tryz.isAgg3
 have z3:=Tryz.sizeOf3
 unfold Nd.nine nineB
 rw [show (10000:Nat)=9999+1 from rfl,Op.equalIn]
 simp only [Sem.run_bind,run_underlying Tryz.underlying154,Result.andThen_ok]
 simp only [Std.Legacy.Range.forIn_eq_forIn_range',Std.Legacy.Range.size,Nat.sub_zero,Nat.add_sub_cancel,Nat.div_one,List.range'_succ,List.range'_zero,List.forIn_cons,List.forIn_nil]
 go_simp
 by_cases h0:x.nb=y.nb
 rotate_left
 ·simp [h0]
 by_cases h1:x.K=y.K
 rotate_left
 ·simp [h0,h1]
 by_cases h2:x.S=y.S
 rotate_left
 ·simp [h0,h1,h2]
 by_cases h3:x.P=y.P
 rotate_left
 ·simp [h0,h1,h2,h3]
 by_cases h4:x.O=y.O
 rotate_left
 ·simp [h0,h1,h2,h3,h4]
 by_cases h5:x.Z=y.Z
 rotate_left
 ·simp [h0,h1,h2,h3,h4,h5]
 by_cases h6:x.Y=y.Y
 rotate_left
 ·simp [h0,h1,h2,h3,h4,h5,h6]
 by_cases h7:x.lo=y.lo
 rotate_left
 ·simp [h0,h1,h2,h3,h4,h5,h6,h7]
 by_cases h8:x.hi=y.hi
 rotate_left
 ·simp [h0,h1,h2,h3,h4,h5,h6,h7,h8]
 simp [h0,h1,h2,h3,h4,h5,h6,h7,h8]
end CKind
end
section
namespace CPool
open Go Go.ChangeShapes Go.WideShapes Go.ChangeAt Go.RowKit
open Plain CSat CShape CTensor CConv
theorem each_bad (H W C:Int) (A:Option Addr) (n c:Nat) (x0 x1 x2 x8 x11 x12 x13 x14 x15 x16 x17 x18:Value) (K S P O Z:Int) (WA BA:Option Addr) (nW cW nB cB:Nat) (fv:Value) (ht:tensB H W C n=false) (w:World) :
  Calls Tryz.prog 81 #[.agg #[.int .i64 H,.int .i64 W,.int .i64 C,.slice A n c],.agg #[x0,x1,x2,.int .i64 K,.int .i64 S,.int .i64 P,.int .i64 O,.int .i8 Z,x8,.slice WA nW cW,.slice BA nB cB,x11,x12,x13,x14,x15,x16,x17,x18],fv] w (MadeP w 0 0 0 0 [] (.int .i64 5)):=by
 have HT:=hid ht
 clear ht
 go_enter Tryz.func81,Tryz.ntmps81
 go_wp2_with (go_at_call 13;(refine (zac H W C A n c false HT.out _).mono ?_);(rintro e w1 ⟨rfl,hb⟩;obtain⟨hcc,hff⟩:=Kit.bcell hb;have hz:w.heap.size+3≤w1.heap.size:=(by have:=hb.size;simp at this;omega);have hz2:w.heap.size+2 < w1.heap.size:=(by omega);have HB:=hid hb;clear hb))
 refine bodyPost_ret (Kit.zaa rfl _ _ (w.heap.size+2) 0 [.int .i64 0,.int .i64 0,.int .i64 0,.slice none 0 0] _ rfl (zan (by go_cell) (by go_cell) (by go_cell) (by go_cell)) Tryz.underlying27 rfl (by kernel_rfl)) rfl ?_
 have hB1:Below w.heap.size w w1:=Below.trans ((((Below.refl _ _).alloc (le_refl _) _).alloc (by simp) _).alloc (by simp;omega) _) (HB.out.mono (by first | omega | (simp;done) | (simp;omega)))
 exact⟨_,rfl,World.ownsRow_nil _ _ _ _,(((hB1.setCell (p:=⟨w.heap.size+2,0,none⟩) (by simp) _).setCell (p:=⟨w.heap.size+2,1,none⟩) (by simp) _).setCell (p:=⟨w.heap.size+2,2,none⟩) (by simp) _).setCell (p:=⟨w.heap.size+2,3,none⟩) (by simp) _⟩
theorem each_err (H W C:Int) (A:Option Addr) (n c:Nat) (x0 x1 x2 x8 x11 x12 x13 x14 x15 x16 x17 x18:Value) (K S P O Z:Int) (WA BA:Option Addr) (nW cW nB cB:Nat) (fv:Value) (ht:tensB H W C n=true) (er:Int) (he:zaz H W C K S P C=er) (h0:er≠0) (w:World) :
  Calls Tryz.prog 81 #[.agg #[.int .i64 H,.int .i64 W,.int .i64 C,.slice A n c],.agg #[x0,x1,x2,.int .i64 K,.int .i64 S,.int .i64 P,.int .i64 O,.int .i8 Z,x8,.slice WA nW cW,.slice BA nB cB,x11,x12,x13,x14,x15,x16,x17,x18],fv] w (MadeP w 0 0 0 0 [] (.int .i64 er)):=by
 have hS:za8 H W C K S P C=#[.int .i64 0,.int .i64 0,.int .i64 0]:=by unfold za8;rw [he,if_neg h0]
 have HT:=hid ht
 have HE:=hid he
 have HS:=hid hS
 have h0b:(er != 0)=true:=by simpa using h0
 have h0c:(er == 0)=false:=by simpa using h0
 clear ht he hS
 go_enter Tryz.func81,Tryz.ntmps81
 go_wp2_with (first
  | (go_at_call 13
     have hal:Below w.heap.size w (((w.alloc (.cells #[.int .i64 H,.int .i64 W,.int .i64 C,.slice A n c] 27)).alloc (.cells #[x0,x1,x2,.int .i64 K,.int .i64 S,.int .i64 P,.int .i64 O,.int .i8 Z,x8,.slice WA nW cW,.slice BA nB cB,x11,x12,x13,x14,x15,x16,x17,x18] 44)).alloc (.cells #[.int .i64 0,.int .i64 0,.int .i64 0,.slice none 0 0] 27)):=(((Below.refl _ _).alloc (by first | exact le_refl _ | (simp;done) | (simp;omega)) _).alloc (by first | exact le_refl _ | (simp;done) | (simp;omega)) _).alloc (by first | exact le_refl _ | (simp;done) | (simp;omega)) _
     refine (zac H W C A n c true HT.out _).mono ?_
     rintro e w1 ⟨rfl,hb⟩
     have hh:Below w.heap.size w w1:=hal.trans (hb.mono hal.size)
     have qTB:=(zbd H W C A n c 27) w
     try simp only [World.size_alloc] at qTB
     have TB:=hid ((qTB.below (B':=w.heap.size+1) (by omega) ((((Below.refl _ _).alloc (by first | exact le_refl _ | (simp;done) | (simp;omega)) _).alloc (by first | exact le_refl _ | (simp;done) | (simp;omega)) _).mono (by simp))).below (by first | (simp;done) | (simp;omega)) hb)
     have yTB:w.heap.size < w1.heap.size:=by have:=hb.size;simp at this;omega
     clear qTB
     have qTN:=(zai.new x0 x1 x2 x8 x11 x12 x13 x14 x15 x16 x17 x18 K S P O Z WA BA nW cW nB cB 44) (w.alloc (.cells #[.int .i64 H,.int .i64 W,.int .i64 C,.slice A n c] 27))
     try simp only [World.size_alloc] at qTN
     have TN:=hid ((qTN.below (B':=w.heap.size+2) (by omega) (((Below.refl _ _).alloc (by first | exact le_refl _ | (simp;done) | (simp;omega)) _).mono (by simp))).below (by first | (simp;done) | (simp;omega)) hb)
     have yTN:w.heap.size+1 < w1.heap.size:=by have:=hb.size;simp at this;omega
     clear qTN
     have qFR:=(za5 27) ((w.alloc (.cells #[.int .i64 H,.int .i64 W,.int .i64 C,.slice A n c] 27)).alloc (.cells #[x0,x1,x2,.int .i64 K,.int .i64 S,.int .i64 P,.int .i64 O,.int .i8 Z,x8,.slice WA nW cW,.slice BA nB cB,x11,x12,x13,x14,x15,x16,x17,x18] 44))
     try simp only [World.size_alloc] at qFR
     have FR:=hid (qFR.below (by first | (simp;done) | (simp;omega)) hb)
     have yFR:w.heap.size+2 < w1.heap.size:=by have:=hb.size;simp at this;omega
     clear qFR
     have HBW:Hid (Below w.heap.size w w1):=hid hh
     obtain⟨tbp0,tbp1,tbp2,tbp3⟩:=TB.out
     have n3:=TN.out.at 3 _ rfl
     have n4:=TN.out.at 4 _ rfl
     have n5:=TN.out.at 5 _ rfl
     clear hb hh hal)
  | (go_at_call 78
     have hal:Below w1.heap.size w1 w1:=Below.refl _ _
     refine (zbf H W C K S P C er _ HE.out HS.out _).mono ?_
     rintro e w2 ⟨rfl,hb⟩
     have hh:Below w1.heap.size w1 w2:=hal.trans (hb.mono hal.size)
     replace TB:=hid (TB.out.below yTB hh)
     replace yTB:=Nat.lt_of_lt_of_le yTB hh.size
     replace TN:=hid (TN.out.below yTN hh)
     replace yTN:=Nat.lt_of_lt_of_le yTN hh.size
     replace FR:=hid (FR.out.below yFR hh)
     replace yFR:=Nat.lt_of_lt_of_le yFR hh.size
     replace HBW:=hid (HBW.out.trans (hh.mono HBW.out.size))
     clear tbp0 tbp1 tbp2 tbp3 n3 n4 n5
     obtain⟨⟨z0,z1,z2,z3⟩,z4,z5,z6,z7⟩:=FR.out
     obtain⟨tbp0,tbp1,tbp2,tbp3⟩:=TB.out
     have n3:=TN.out.at 3 _ rfl
     have n4:=TN.out.at 4 _ rfl
     have n5:=TN.out.at 5 _ rfl
     clear hb hh hal))
 obtain⟨⟨z0,z1,z2,z3⟩,z4,z5,z6,z7⟩:=FR.out
 refine bodyPost_ret (Kit.zaa rfl _ _ (w.heap.size+2) 0 [.int .i64 0,.int .i64 0,.int .i64 0,.slice none 0 0] _ rfl (zan (by go_cell) (by go_cell) (by go_cell) (by go_cell)) Tryz.underlying27 rfl (by kernel_rfl)) rfl ?_
 exact⟨_,rfl,World.ownsRow_nil _ _ _ _,by exact ((((HBW.out.setCell (p:=⟨w.heap.size+2,0,none⟩) (by simp) _).setCell (p:=⟨w.heap.size+2,1,none⟩) (by simp) _).setCell (p:=⟨w.heap.size+2,2,none⟩) (by simp) _).setCell (p:=⟨w.heap.size+2,3,none⟩) (by simp) _).alloc (by simp;omega) _⟩
end CPool
end
end Go.Proofs.YtahekhpeomcfjaaGreatDoor
