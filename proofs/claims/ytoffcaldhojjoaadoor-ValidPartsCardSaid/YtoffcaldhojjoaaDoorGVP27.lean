/- -/
import Derived.Test.YtoffcaldhojjoaaDoorGVP25
import Derived.Test.YtoffcaldhojjoaaDoorGVP26
open Go.Lib (hid)
open Nat (le_refl lt_of_succ_lt lt_succ_self)
set_option linter.unusedVariables false
set_option linter.unusedSimpArgs false
set_option maxRecDepth 100000
set_option maxHeartbeats 16000000
namespace Go.Proofs.YtoffcaldhojjoaaDoor
namespace CConv
end CConv
namespace CFix
end CFix
namespace CGraph
end CGraph
namespace CJoin
end CJoin
namespace CKind
end CKind
namespace CSat
end CSat
namespace CShape
end CShape
namespace CSpan
end CSpan
namespace CTensor
end CTensor
open Go Go.ChangeShapes Go.WideShapes Go.ChangeAt Go.RowKit Go.Deep
section
namespace CGraph
open Plain CSat CFix CShape CTensor CConv CKind
def i64V (L:List Int):List Value:=L.map (.int .i64)
theorem kd6 {x:Nd} (h:x.kd=6):(x.kd == 6)=true∧(x.kd != 6)=false:=by simp [h]
theorem kd6n {x:Nd} (h:¬ x.kd=6):(x.kd == 6)=false∧(x.kd != 6)=true:=by simp [h]
theorem operands_to (x:Nd) (w:World):Calls Tryd.prog 54 #[.agg x.val] w fun e w'=>∃ b,e=.returned (.slice (some ⟨b,0,none⟩) (opL x).length (opL x).length)∧w.heap.size≤b∧Kit.Rd w' w'.heap.size (some ⟨b,0,none⟩) (i64V (opL x))∧Below w.heap.size w w':=by
 have TN:=NdAt.new x 67 w
 have HB0:=(Below.refl w.heap.size w).alloc (le_refl _) (.cells x.val 67)
 have c0:=TN.at 0 _ rfl
 have c1:=TN.at 1 _ rfl
 have c2:=TN.at 2 _ rfl
 have HB:=hid HB0
 clear TN HB0
 by_cases h:x.kd=6
 ·obtain⟨h1,h2⟩:=kd6 h
  have e:opL x=[x.na,x.nb]:=by unfold opL;rw [if_pos h]
  rw [e]
  clear e h
  go_enter Tryd.func54,Tryd.ntmps54
  go_upto_region 1 with fail
  generalize w.alloc (.cells x.val 67)=W0 at c0 c1 c2 HB ⊢
  go_wp2_with fail
  go_ret
  exact⟨_,rfl,HB.out.size,Kit.Rd.new _ [.int .i64 x.na,.int .i64 x.nb] _ (by simp),HB.out.alloc HB.out.size _⟩
 ·obtain⟨h1,h2⟩:=kd6n h
  have e:opL x=[x.na]:=by unfold opL;rw [if_neg h]
  rw [e]
  clear e h
  go_enter Tryd.func54,Tryd.ntmps54
  go_upto_region 1 with fail
  generalize w.alloc (.cells x.val 67)=W0 at c0 c1 c2 HB ⊢
  go_wp2_with fail
  go_ret
  exact⟨_,rfl,HB.out.size,Kit.Rd.new _ [.int .i64 x.na] _ (by simp),HB.out.alloc HB.out.size _⟩
theorem earB_iff:∀ (l:List Int) (m:Int),earB l m=true↔∀ (k:Nat) (z:Int),l[k]?=some z→0≤z∧z < m
 | [],m=>by simp [earB]
 | v :: r,m=>by
   simp only [earB,Bool.and_eq_true,decide_eq_true_eq,earB_iff r m]
   constructor
   ·rintro⟨h1,h2⟩ k z hk
    cases k with
    | zero=>simp at hk;subst hk;exact h1
    | succ k=>exact h2 k z (by simpa using hk)
   ·intro h
    exact⟨h 0 v rfl,fun k z hk=>h (k+1) z (by simpa using hk)⟩
theorem earB_no {l:List Int} {m:Int} {k:Nat} {z:Int} (hk:l[k]?=some z) (h:¬ (0≤z∧z < m)):earB l m=false:=by
 cases e:earB l m with
 | false=>rfl
 | true=>exact absurd ((earB_iff l m).1 e k z hk) h
def AheadZ (l:List Int) (m:Int) (k:Nat):Prop:=∀ (j:Nat) (z:Int),j < k→l[j]?=some z→0≤z∧z < m
theorem earlier_to (l:List Int) (n:Nat) (hn:l.length=n) (hn1:n≤1000) (m:Int) (A:Option Addr) (c:Nat) (w:World) {B:Nat} (hr:Kit.Rd w B A (i64V l)):Calls Tryd.prog 53 #[.slice A n c,.int .i64 m] w fun e w'=>e=.returned (.bool (earB l m))∧w=w':=by
 have HR:=hid hr
 have HN:=hid hn
 clear hr hn
 go_enter Tryd.func53,Tryd.ntmps53
 go_wp2_with fail
 go_loop [9] (fun u=>∃ k:Nat,k≤n∧u=.int .i64 k∧Hid (AheadZ l m k)) (fun u=>n - (intOf u).toNat)
 case atStart=>exact⟨0,Nat.zero_le _,rfl,hid (fun j z hj=>absurd hj (Nat.not_lt_zero _))⟩
 case round =>
  obtain⟨k,hk,rfl,hi⟩:=hrel
  by_cases hlt:k < n
  ·have hkl:k < l.length:=by have:=HN.out;omega
   obtain⟨b,o,rfl, -,h1⟩:=HR.out.plain (by rw [i64V,List.length_map];omega)
   obtain⟨z,hz⟩:∃ z,l[k]?=some z:=⟨_,List.getElem?_eq_getElem hkl⟩
   have c1:=h1 k (.int .i64 z) (by simp [i64V,hz])
   have k0:(0:Int)≤(k:Int):=by omega
   have k1:(k:Int) < (n:Int):=by omega
   clear h1
   by_cases hok:0≤z∧z < m
   ·have hz1:¬ z < 0:=by omega
    have hz2:¬ z ≥ m:=by omega
    have hs:AheadZ l m (k+1):=fun j y hj hy=>by
     rcases Nat.lt_succ_iff_lt_or_eq.1 hj with h | rfl
     ·exact hi.out j y h hy
     ·rw [hz] at hy;cases hy;exact hok
    have HS:=hid hs
    clear hi hs hok hz
    go_wp2_with fail
    go_round
    case rel=>exact⟨k+1,by omega,by go_num,HS⟩
    case measure=>simp [intOf];omega
   ·have hf:=earB_no hz hok
    have HF:=hid hf
    clear hi hf hz
    by_cases hz1:z < 0
    ·clear hok
     go_wp2_with fail
     go_ret
     exact⟨by rw [HF.out];rfl,rfl⟩
    ·have hz2:z ≥ m:=by omega
     clear hok
     go_wp2_with fail
     go_ret
     exact⟨by rw [HF.out];rfl,rfl⟩
  ·obtain rfl:k=n:=by omega
   have hy:earB l m=true:=(earB_iff l m).2 fun j z hz=>hi.out j z (by have:=(List.getElem?_eq_some_iff.1 hz).1;have:=HN.out;omega) hz
   have HY:=hid hy
   clear hi hy
   go_wp2_with fail
   go_ret
   exact⟨by rw [HY.out];rfl,rfl⟩
end CGraph
end
section
namespace CGuard
open Plain CSat CFix CShape CTensor CConv CSpan CKind CGraph CJoin
theorem zaz.newC (w:World) (x:Nd) (l h l2 h2:Int):zaz w.heap.size x l h l2 h2 ((((w.alloc (.cells x.val 67)).alloc (.cells #[.int .i8 l,.int .i8 h] 75)).alloc (.cells #[.int .i8 l2,.int .i8 h2] 75)).alloc (.cells #[.int .i8 0,.int .i8 0] 75))∧Below w.heap.size w ((((w.alloc (.cells x.val 67)).alloc (.cells #[.int .i8 l,.int .i8 h] 75)).alloc (.cells #[.int .i8 l2,.int .i8 h2] 75)).alloc (.cells #[.int .i8 0,.int .i8 0] 75)):=by
 have b4:Below (w.heap.size+3) (((w.alloc (.cells x.val 67)).alloc (.cells #[.int .i8 l,.int .i8 h] 75)).alloc (.cells #[.int .i8 l2,.int .i8 h2] 75)) ((((w.alloc (.cells x.val 67)).alloc (.cells #[.int .i8 l,.int .i8 h] 75)).alloc (.cells #[.int .i8 l2,.int .i8 h2] 75)).alloc (.cells #[.int .i8 0,.int .i8 0] 75)):=(Below.refl _ _).alloc (by simp) _
 have b3:Below (w.heap.size+2) ((w.alloc (.cells x.val 67)).alloc (.cells #[.int .i8 l,.int .i8 h] 75)) ((((w.alloc (.cells x.val 67)).alloc (.cells #[.int .i8 l,.int .i8 h] 75)).alloc (.cells #[.int .i8 l2,.int .i8 h2] 75)).alloc (.cells #[.int .i8 0,.int .i8 0] 75)):=((Below.refl _ _).alloc (by simp) _).trans (b4.mono (by omega))
 have b2:Below (w.heap.size+1) (w.alloc (.cells x.val 67)) ((((w.alloc (.cells x.val 67)).alloc (.cells #[.int .i8 l,.int .i8 h] 75)).alloc (.cells #[.int .i8 l2,.int .i8 h2] 75)).alloc (.cells #[.int .i8 0,.int .i8 0] 75)):=((Below.refl _ _).alloc (by simp) _).trans (b3.mono (by omega))
 have b1:Below w.heap.size w ((((w.alloc (.cells x.val 67)).alloc (.cells #[.int .i8 l,.int .i8 h] 75)).alloc (.cells #[.int .i8 l2,.int .i8 h2] 75)).alloc (.cells #[.int .i8 0,.int .i8 0] 75)):=((Below.refl _ _).alloc (le_refl _) _).trans (b2.mono (by omega))
 have q2:=rchNew l h 75 (w.alloc (.cells x.val 67))
 have q3:=rchNew l2 h2 75 ((w.alloc (.cells x.val 67)).alloc (.cells #[.int .i8 l,.int .i8 h] 75))
 have q4:=FreshR.new 75 (((w.alloc (.cells x.val 67)).alloc (.cells #[.int .i8 l,.int .i8 h] 75)).alloc (.cells #[.int .i8 l2,.int .i8 h2] 75))
 simp only [World.size_alloc] at q2 q3 q4
 exact⟨⟨(NdAt.new x 67 w).below (lt_succ_self _) b2,q2.below (lt_succ_self _) b3,q3.below (lt_succ_self _) b4,q4,by simp⟩,b1⟩
theorem cgn_chk {w:World} (x:Nd) (hx:x.Small) (hT:zae w) (l h l2 h2:Int) (bd:(-128≤l∧l≤127)∧(-128≤h∧h≤127)∧(-128≤l2∧l2≤127)∧(-128≤h2∧h2≤127)) (ok:NBd x.Z x.Y x.m1 x.z1 x.m2 x.z2 x.lo x.hi) (er:Int) (he:x.checkZ=er) (hne:er≠0) :
  Calls Tryd.prog 57 #[.agg x.val,.agg #[.int .i8 l,.int .i8 h],.agg #[.int .i8 l2,.int .i8 h2]] w fun e w'=>e=.returned (.tuple #[.agg #[.int .i8 (0),.int .i8 (0)],.int .i64 (er)])∧Below w.heap.size w w':=by
 obtain⟨hg0,hw0⟩:=zaz.newC w x l h l2 h2
 have HG:=hid hg0
 have HW:=hid hw0
 have HT:=hid hT
 have hck:=fun (w:World) (hT:zae w)=>zaw x hx w hT
 rw [he] at hck
 have n1:(er != 0)=true:=by simpa using hne
 have CK:=hid hck
 clear hg0 hw0 hck hT he
 go_enter Tryd.func57,Tryd.ntmps57
 go_upto_region 1 with fail
 generalize (((w.alloc (.cells x.val 67)).alloc (.cells #[.int .i8 l,.int .i8 h] 75)).alloc (.cells #[.int .i8 l2,.int .i8 h2] 75)).alloc (.cells #[.int .i8 0,.int .i8 0] 75)=W0 at HG HW ⊢
 have c0:=HG.out.1.at 0 _ rfl
 have c5:=HG.out.1.at 5 _ rfl
 have c7:=HG.out.1.at 7 _ rfl
 obtain⟨a0,a1⟩:=HG.out.2.1
 obtain⟨b0,b1⟩:=HG.out.2.2.1
 go_wp2_with (refine zab rfl _ rfl w.heap.size x rfl HG.out.1 ?_)
 go_at_call 52
 refine (CK.out _ (HT.out.grown HW.out)).mono ?_
 rintro e w1 ⟨rfl,hb⟩
 replace HG:=hid (HG.out.below hb)
 replace HW:=hid (HW.out.trans (hb.mono HW.out.size))
 clear hb c0 c5 c7 a0 a1 b0 b1
 have c0:=HG.out.1.at 0 _ rfl
 have c5:=HG.out.1.at 5 _ rfl
 have c7:=HG.out.1.at 7 _ rfl
 obtain⟨a0,a1⟩:=HG.out.2.1
 obtain⟨b0,b1⟩:=HG.out.2.2.1
 obtain⟨⟨z0,z1⟩,z2,z3⟩:=HG.out.2.2.2.1
 go_wp2_with (refine zab rfl _ rfl w.heap.size x rfl HG.out.1 ?_)
 refine bodyPost_ret (Kit.zaa rfl _ _ (w.heap.size+3) 0 [.int .i8 (0),.int .i8 (0)] _ rfl (Kit.zam (by go_cell) (by go_cell)) Tryd.underlying75 rfl (by kernel_rfl)) rfl ?_
 exact⟨rfl,(HW.out.setCell (p:=⟨w.heap.size+3,0,none⟩) (Nat.le_add_right _ _) _).setCell (p:=⟨w.heap.size+3,1,none⟩) (Nat.le_add_right _ _) _⟩
end CGuard
end
end Go.Proofs.YtoffcaldhojjoaaDoor
