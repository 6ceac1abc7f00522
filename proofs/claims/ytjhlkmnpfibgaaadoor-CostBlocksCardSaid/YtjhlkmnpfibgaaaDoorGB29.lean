/- -/
import Derived.Test.YtjhlkmnpfibgaaaDoorGB28
open Go.Lib (hid)
open Nat (le_refl lt_of_succ_lt lt_succ_self)
set_option linter.unusedVariables false
set_option linter.unusedSimpArgs false
set_option maxRecDepth 100000
set_option maxHeartbeats 16000000
namespace Go.Proofs.YtjhlkmnpfibgaaaDoor
namespace CConv
end CConv
namespace CSat
end CSat
namespace CTensor
end CTensor
open Go Go.ChangeShapes Go.WideShapes Go.ChangeAt Go.RowKit Go.Deep
section
namespace CGraph
open Plain CSat CFix CShape CTensor CConv CKind
def i64V (L:List Int):List Value:=L.map (.int .i64)
theorem kd6 {x:Nd} (h:x.kd=6):(x.kd == 6)=true∧(x.kd != 6)=false:=by simp [h]
theorem kd6n {x:Nd} (h:¬ x.kd=6):(x.kd == 6)=false∧(x.kd != 6)=true:=by simp [h]
theorem operands_to (x:Nd) (w:World):Calls Tryd.prog 48 #[.agg x.val] w fun e w'=>∃ b,e=.returned (.slice (some ⟨b,0,none⟩) (opL x).length (opL x).length)∧w.heap.size≤b∧Kit.Rd w' w'.heap.size (some ⟨b,0,none⟩) (i64V (opL x))∧Below w.heap.size w w':=by
 have TN:=NdAt.new x 35 w
 have HB0:=(Below.refl w.heap.size w).alloc (le_refl _) (.cells x.val 35)
 have c0:=TN.at 0 _ rfl
 have c1:=TN.at 1 _ rfl
 have c2:=TN.at 2 _ rfl
 have HB:=hid HB0
 clear TN HB0
 by_cases h:x.kd=6
 ·obtain⟨h1,h2⟩:=kd6 h
  have e:opL x=[x.na,x.nb]:=by unfold opL;rw [if_pos h]
  rw [e]
  clear e h
  go_enter Tryd.func48,Tryd.ntmps48
  go_upto_region 1 with fail
  generalize w.alloc (.cells x.val 35)=W0 at c0 c1 c2 HB ⊢
  go_wp2_with fail
  go_ret
  exact⟨_,rfl,HB.out.size,Kit.Rd.new _ [.int .i64 x.na,.int .i64 x.nb] _ (by simp),HB.out.alloc HB.out.size _⟩
 ·obtain⟨h1,h2⟩:=kd6n h
  have e:opL x=[x.na]:=by unfold opL;rw [if_neg h]
  rw [e]
  clear e h
  go_enter Tryd.func48,Tryd.ntmps48
  go_upto_region 1 with fail
  generalize w.alloc (.cells x.val 35)=W0 at c0 c1 c2 HB ⊢
  go_wp2_with fail
  go_ret
  exact⟨_,rfl,HB.out.size,Kit.Rd.new _ [.int .i64 x.na] _ (by simp),HB.out.alloc HB.out.size _⟩
theorem earB_iff:∀ (l:List Int) (m:Int),earB l m=true↔∀ (k:Nat) (z:Int),l[k]?=some z→0≤z∧z < m
 | [],m=>by simp [earB]
 | v :: r,m=>by
   simp only [earB,Bool.and_eq_true,decide_eq_true_eq,earB_iff r m]
   constructor
   ·rintro⟨h1,h2⟩ k z hk
    cases k with
    | zero=>simp at hk;subst hk;exact h1
    | succ k=>exact h2 k z (by simpa using hk)
   ·intro h
    exact⟨h 0 v rfl,fun k z hk=>h (k+1) z (by simpa using hk)⟩
theorem earB_no {l:List Int} {m:Int} {k:Nat} {z:Int} (hk:l[k]?=some z) (h:¬ (0≤z∧z < m)):earB l m=false:=by
 cases e:earB l m with
 | false=>rfl
 | true=>exact absurd ((earB_iff l m).1 e k z hk) h
def AheadZ (l:List Int) (m:Int) (k:Nat):Prop:=∀ (j:Nat) (z:Int),j < k→l[j]?=some z→0≤z∧z < m
theorem earlier_to (l:List Int) (n:Nat) (hn:l.length=n) (hn1:n≤1000) (m:Int) (A:Option Addr) (c:Nat) (w:World) {B:Nat} (hr:Kit.Rd w B A (i64V l)):Calls Tryd.prog 47 #[.slice A n c,.int .i64 m] w fun e w'=>e=.returned (.bool (earB l m))∧w=w':=by
 have HR:=hid hr
 have HN:=hid hn
 clear hr hn
 go_enter Tryd.func47,Tryd.ntmps47
 go_wp2_with fail
 go_loop [9] (fun u=>∃ k:Nat,k≤n∧u=.int .i64 k∧Hid (AheadZ l m k)) (fun u=>n - (intOf u).toNat)
 case atStart=>exact⟨0,Nat.zero_le _,rfl,hid (fun j z hj=>absurd hj (Nat.not_lt_zero _))⟩
 case round =>
  obtain⟨k,hk,rfl,hi⟩:=hrel
  by_cases hlt:k < n
  ·have hkl:k < l.length:=by have:=HN.out;omega
   obtain⟨b,o,rfl, -,h1⟩:=HR.out.plain (by rw [i64V,List.length_map];omega)
   obtain⟨z,hz⟩:∃ z,l[k]?=some z:=⟨_,List.getElem?_eq_getElem hkl⟩
   have c1:=h1 k (.int .i64 z) (by simp [i64V,hz])
   have k0:(0:Int)≤(k:Int):=by omega
   have k1:(k:Int) < (n:Int):=by omega
   clear h1
   by_cases hok:0≤z∧z < m
   ·have hz1:¬ z < 0:=by omega
    have hz2:¬ z ≥ m:=by omega
    have hs:AheadZ l m (k+1):=fun j y hj hy=>by
     rcases Nat.lt_succ_iff_lt_or_eq.1 hj with h | rfl
     ·exact hi.out j y h hy
     ·rw [hz] at hy;cases hy;exact hok
    have HS:=hid hs
    clear hi hs hok hz
    go_wp2_with fail
    go_round
    case rel=>exact⟨k+1,by omega,by go_num,HS⟩
    case measure=>simp [intOf];omega
   ·have hf:=earB_no hz hok
    have HF:=hid hf
    clear hi hf hz
    by_cases hz1:z < 0
    ·clear hok
     go_wp2_with fail
     go_ret
     exact⟨by rw [HF.out];rfl,rfl⟩
    ·have hz2:z ≥ m:=by omega
     clear hok
     go_wp2_with fail
     go_ret
     exact⟨by rw [HF.out];rfl,rfl⟩
  ·obtain rfl:k=n:=by omega
   have hy:earB l m=true:=(earB_iff l m).2 fun j z hz=>hi.out j z (by have:=(List.getElem?_eq_some_iff.1 hz).1;have:=HN.out;omega) hz
   have HY:=hid hy
   clear hi hy
   go_wp2_with fail
   go_ret
   exact⟨by rw [HY.out];rfl,rfl⟩
theorem refSecond_to (x:Nd) (w:World):Calls Tryd.prog 33 #[.agg x.val] w fun e w'=>e=.returned (.int .i64 (sndZ x))∧Below w.heap.size w w':=by
 have TN:=NdAt.new x 35 w
 have HB0:=(Below.refl w.heap.size w).alloc (le_refl _) (.cells x.val 35)
 have c0:=TN.at 0 _ rfl
 have c1:=TN.at 1 _ rfl
 have c2:=TN.at 2 _ rfl
 have HB:=hid HB0
 obtain⟨R,hR⟩:∃ R,sndZ x=R:=⟨_,rfl⟩
 have HRR:=hid hR
 rw [hR]
 clear TN HB0 hR
 go_enter Tryd.func33,Tryd.ntmps33
 go_upto_region 1 with fail
 generalize w.alloc (.cells x.val 35)=W0 at c0 c1 c2 HB ⊢
 by_cases h:x.kd=6
 ·obtain⟨h1,h2⟩:=kd6 h
  obtain rfl:x.nb=R:=by rw [← HRR.out];unfold sndZ;rw [if_pos h]
  clear h HRR
  go_wp2_with fail
  go_ret
  exact⟨rfl,HB.out⟩
 ·obtain⟨h1,h2⟩:=kd6n h
  obtain rfl:x.na=R:=by rw [← HRR.out];unfold sndZ;rw [if_neg h]
  clear h HRR
  go_wp2_with fail
  go_ret
  exact⟨rfl,HB.out⟩
theorem refThere_to (x:Nd) (many:Nat) (w:World):Calls Tryd.prog 32 #[.agg x.val,.int .i64 many] w fun e w'=>e=.returned (.bool (zbk x many))∧Below w.heap.size w w':=by
 have TN:=NdAt.new x 35 w
 have HB0:=(Below.refl w.heap.size w).alloc (le_refl _) (.cells x.val 35)
 have c0:=TN.at 0 _ rfl
 have c1:=TN.at 1 _ rfl
 have c2:=TN.at 2 _ rfl
 have HB:=hid HB0
 obtain⟨R,hR⟩:∃ R,zbk x many=R:=⟨_,rfl⟩
 have HRR:=hid hR
 rw [hR]
 clear TN HB0 hR
 go_enter Tryd.func32,Tryd.ntmps32
 go_upto_region 1 with fail
 generalize w.alloc (.cells x.val 35)=W0 at c0 c1 c2 HB ⊢
 by_cases a1:x.na ≥ 0
 ·by_cases a2:x.na < many
  ·by_cases h:x.kd=6
   ·obtain⟨h1,h2⟩:=kd6 h
    by_cases b1:x.nb ≥ 0
    ·obtain rfl:R=decide (x.nb < many):=by rw [← HRR.out];unfold zbk;rw [decide_eq_decide];simp [h];omega
     clear HRR h
     go_wp2_with fail
     go_ret
     exact⟨rfl,HB.out⟩
    ·obtain rfl:R=false:=by rw [← HRR.out];unfold zbk;simp [h];omega
     clear HRR h
     go_wp2_with fail
     go_ret
     exact⟨rfl,HB.out⟩
   ·obtain⟨h1,h2⟩:=kd6n h
    obtain rfl:R=true:=by rw [← HRR.out];unfold zbk;simp [h];omega
    clear HRR h
    go_wp2_with fail
    go_ret
    exact⟨rfl,HB.out⟩
  ·obtain rfl:R=false:=by rw [← HRR.out];unfold zbk;simp;omega
   clear HRR
   go_wp2_with fail
   go_ret
   exact⟨rfl,HB.out⟩
 ·obtain rfl:R=false:=by rw [← HRR.out];unfold zbk;simp;omega
  clear HRR
  go_wp2_with fail
  go_ret
  exact⟨rfl,HB.out⟩
end CGraph
end
end Go.Proofs.YtjhlkmnpfibgaaaDoor
