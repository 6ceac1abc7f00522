/- -/
import Derived.Test.YtceehogkckdbkaaDoorGF46
open Go.Lib (hid)
open Nat (le_refl lt_of_succ_lt lt_succ_self)
set_option linter.unusedVariables false
set_option linter.unusedSimpArgs false
set_option maxRecDepth 100000
set_option maxHeartbeats 16000000
namespace Go.Proofs.YtceehogkckdbkaaDoor
namespace CConv
end CConv
namespace CFix
end CFix
namespace CGraph
end CGraph
namespace CKind
end CKind
namespace CSat
end CSat
namespace CShape
end CShape
namespace CSpan
end CSpan
namespace CTensor
end CTensor
open Go Go.ChangeShapes Go.WideShapes Go.ChangeAt Go.RowKit Go.Deep
section
namespace CGuard
open Plain CSat CFix CShape CTensor CConv CSpan CKind CGraph CJoin
abbrev Rch:=Int × Int
def rch0:Rch:=(0,0)
def RBd (r:Rch):Prop:=(-128≤r.1∧r.1≤127)∧(-128≤r.2∧r.2≤127)
abbrev NdW:=Nd × List Int × List Int
def nodeG (y:NdW) (l:List Rch):Int × Int × Int:=gnZ y.1 y.2.1 y.2.2 (l.getD y.1.na.toNat rch0).1 (l.getD y.1.na.toNat rch0).2 (l.getD (sndZ y.1).toNat rch0).1 (l.getD (sndZ y.1).toNat rch0).2
def stopG (y:NdW) (l:List Rch):Int:=if zbb y.1 l.length=false then 8 else (nodeG y l).2.2
def nextR (y:NdW) (l:List Rch):Rch:=((nodeG y l).1,(nodeG y l).2.1)
def rcL (Y:Nat→NdW) (r0:Rch):Nat→List Rch
 | 0=>[r0]
 | k+1=>rcL Y r0 k ++ [nextR (Y k) (rcL Y r0 k)]
theorem rcL_len (Y:Nat→NdW) (r0:Rch) (k:Nat):(rcL Y r0 k).length=k+1:=by
 induction k with
 | zero=>rfl
 | succ k ih=>simp [rcL,ih]
def za8 (Y:Nat→NdW) (r0:Rch):Nat→Option (Nat × Int)
 | 0=>none
 | k+1=>match za8 Y r0 k with
   | some r=>some r
   | none=>if stopG (Y k) (rcL Y r0 k)=0 then none else some (k,stopG (Y k) (rcL Y r0 k))
theorem stopGA_go {Y:Nat→NdW} {r0:Rch} {k:Nat} (h:za8 Y r0 k=none) (hz:stopG (Y k) (rcL Y r0 k)=0):za8 Y r0 (k+1)=none:=by
 simp [za8,h,hz]
theorem stopGA_end {Y:Nat→NdW} {r0:Rch} {k n:Nat} (hk:k < n) (h:za8 Y r0 k=none) (hz:stopG (Y k) (rcL Y r0 k)≠0):za8 Y r0 n=some (k,stopG (Y k) (rcL Y r0 k)):=by
 obtain⟨d,rfl⟩:∃ d,n=k+1+d:=⟨n - (k+1),by omega⟩
 clear hk
 induction d with
 | zero=>simp [za8,h,hz]
 | succ d ih=>rw [show k+1+(d+1)=(k+1+d)+1 by omega,za8,ih]
theorem gnZ_bd {w:World} {B:Nat} {x:Nd} (ok:NdOk w B x) (ws bs:List Int) {l h l2 h2:Int} (bd:(-128≤l∧l≤127)∧(-128≤h∧h≤127)∧(-128≤l2∧l2≤127)∧(-128≤h2∧h2≤127)) :
  RBd ((gnZ x ws bs l h l2 h2).1,(gnZ x ws bs l h l2 h2).2.1):=by
 have hz:=ok.z
 have hb:∀ a, -128≤heldZ a x.m1 x.s1 x.z1 x.lo x.hi∧heldZ a x.m1 x.s1 x.z1 x.lo x.hi≤127:=fun a=>heldZ_bds a _ _ _ _ _ ok.q.2.2.2.2.1.1 ok.q.2.2.2.2.1.2 ok.q.2.2.2.2.2.1.1 ok.q.2.2.2.2.2.1.2
 have ho:∀ p q, -128≤oneZ p q x.Z x.Y x.m1 x.s1 x.z1 x.m2 x.s2 x.lo x.hi∧oneZ p q x.Z x.Y x.m1 x.s1 x.z1 x.m2 x.s2 x.lo x.hi≤127:=by
  intro p q
  unfold oneZ
  repeat' split
  all_goals first | omega | exact⟨clampZ_lo ok.q.2.2.2.2.1.1 ok.q.2.2.2.2.2.1.1,clampZ_hi ok.q.2.2.2.2.1.2 ok.q.2.2.2.2.2.1.2⟩ | (unfold zay;have q1:=ok.q.2.2.2.2.1;have q2:=ok.q.2.2.2.2.2.1;repeat' split) <;> omega
 unfold gnZ RBd
 split
 ·refine⟨⟨?_,?_⟩,?_,?_⟩ <;> simp only [] <;> omega
 ·split
  ·decide
  ·split
   ·split
    ·split
     ·exact⟨⟨Int.le_min.2 ⟨(hb _).1,(hb _).1⟩,Int.le_trans (Int.min_le_left _ _) (hb _).2⟩,⟨Int.le_trans (hb _).1 (Int.le_max_left _ _),Int.max_le.2 ⟨(hb _).2,(hb _).2⟩⟩⟩
     ·decide
    ·exact⟨⟨Int.le_min.2 ⟨(hb _).1,(hb _).1⟩,Int.le_trans (Int.min_le_left _ _) (hb _).2⟩,⟨Int.le_trans (hb _).1 (Int.le_max_left _ _),Int.max_le.2 ⟨(hb _).2,(hb _).2⟩⟩⟩
   ·split
    ·exact⟨ho _ _,ho _ _⟩
    ·split
     ·exact⟨hb _,hb _⟩
     ·split
      ·refine⟨⟨?_,?_⟩,?_,?_⟩ <;> simp only [] <;> omega
      ·exact⟨bd.1,bd.2.1⟩
theorem rcL_at {L:List Rch} {n k:Nat} (hn:L.length=n) (hk:k < n):∃ a,L[k]?=some a∧L.getD k rch0=a :=
 ⟨L[k]'(by omega),List.getElem?_eq_getElem _,by rw [List.getD,List.getElem?_eq_getElem (by omega)];rfl⟩
def rvV:List Rch→List Value
 | []=>[]
 | a :: r=>.int .i8 a.1 :: .int .i8 a.2 :: rvV r
theorem rvV_len:∀ L,(rvV L).length=L.length * 2
 | []=>rfl
 | a :: r=>by simp [rvV,rvV_len r];omega
theorem rvV_append:∀ L M,rvV (L ++ M)=rvV L ++ rvV M
 | [],M=>rfl
 | a :: r,M=>by simp [rvV,rvV_append r M]
theorem rvV_get:∀ (L:List Rch) (k:Nat) (a:Rch),L[k]?=some a→(rvV L)[k * 2]?=some (.int .i8 a.1)∧(rvV L)[k * 2+1]?=some (.int .i8 a.2)
 | [],k,a,h=>by simp at h
 | b :: r,0,a,h=>by simp at h;subst h;simp [rvV]
 | b :: r,k+1,a,h=>by
   obtain⟨h1,h2⟩:=rvV_get r k a (by simpa using h)
   rw [show (k+1) * 2=k * 2+1+1 by omega,rvV]
   refine⟨?_,?_⟩
   ·simpa using h1
   ·rw [show k * 2+1+1+1=(k * 2+1)+1+1 by omega];simpa using h2
theorem rv_cells {w:World} {B:Nat} {A:Option Addr} {L:List Rch} (h:Kit.Rd w B A (rvV L)) (hn:0 < L.length) :
  ∃ b o,A=some ⟨b,o,none⟩∧b < B∧∀ k a,L[k]?=some a→w.rangeAt b (o+k * 2) [.int .i8 a.1,.int .i8 a.2]:=by
 obtain⟨b,o,e,hb,hc⟩:=h.plain (by rw [rvV_len];omega)
 refine⟨b,o,e,hb,fun k a hk q v hq=>?_⟩
 obtain⟨h1,h2⟩:=rvV_get L k a hk
 match q,hq with
 | 0,hq=>simp at hq;subst hq;exact hc (k * 2) _ h1
 | 1,hq=>simp at hq;subst hq;rw [Nat.add_assoc];exact hc (k * 2+1) _ h2
theorem rcL_bd (Y:Nat→NdW) (r0:Rch) (h0:RBd r0):∀ k,(∀ j,j < k→∃ w B,NdOk w B (Y j).1)→∀ (q:Nat) (a:Rch),(rcL Y r0 k)[q]?=some a→RBd a:=by
 intro k
 induction k with
 | zero =>
   intro _ q a h
   match q,h with
   | 0,h=>simp [rcL] at h;subst h;exact h0
 | succ k ih =>
   intro hY q a h
   have ih':=ih (fun j hj=>hY j (by omega))
   have hd:∀ p,RBd ((rcL Y r0 k).getD p rch0):=by
    intro p
    by_cases hp:p < k+1
    ·obtain⟨a,h1,h2⟩:=rcL_at (rcL_len Y r0 k) hp
     rw [h2];exact ih' p a h1
    ·rw [List.getD,List.getElem?_eq_none (by rw [rcL_len];omega)];exact⟨⟨by decide,by decide⟩,by decide,by decide⟩
   rw [rcL] at h
   by_cases hq:q < (rcL Y r0 k).length
   ·rw [List.getElem?_append_left hq] at h;exact ih' q a h
   ·rw [List.getElem?_append_right (by omega)] at h
    obtain⟨w,B,hok⟩:=hY k (by omega)
    have:q - (rcL Y r0 k).length=0:=by
     cases e:q - (rcL Y r0 k).length with
     | zero=>rfl
     | succ d=>rw [e] at h;simp at h
    rw [this] at h
    simp at h
    subst h
    exact gnZ_bd hok _ _ ⟨(hd _).1,(hd _).2,(hd _).1,(hd _).2⟩
theorem eqReach (a b x y:Int) (w:World):(Op.equalIn 10000 42 (.agg #[.int .i8 a,.int .i8 b]) (.agg #[.int .i8 x,.int .i8 y])).run Tryd.prog w=.ok (a == x && b == y) w:=by
 have u3:=Tryd.underlying23
 have a3:=Tryd.isAgg23
 have z3:=Tryd.sizeOf23
 have hS:Tryd.prog.underlying 42=some (.struct (Tryd.prog.fieldsOf 42)):=by kernel_rfl
 rw [show (10000:Nat)=9999+1 from rfl,run_equalIn_agg w 9999 42 _ _ hS Tryd.stoodInHeld42]
 simp only [Program.fieldsOf,Tryd.underlying42]
 go_simp
 by_cases h1:a=x <;> by_cases h2:b=y <;> simp [h1,h2]
theorem ndl_of {w:World} {B:Nat} {x:Nd} (h:NdOk w B x):∃ p:List Int × List Int,NdL w B x p.1 p.2:=by
 obtain⟨zs,a1,a2,a3,a4,a5⟩:=h.ws
 obtain⟨ys,b1,b2,b3,b4,b5⟩:=h.bs
 refine⟨(zs,ys),⟨h,a1,b1,⟨a2,b2⟩,?_,?_,a5,b5⟩⟩
 ·intro q
  by_cases hq:q < zs.length
  ·have e:zs.getD q 0=zs[q]:=by rw [List.getD_eq_getElem?_getD,List.getElem?_eq_getElem hq];rfl
   rw [e]
   simpa [Lit.wf,IntKind.min,IntKind.max,IntKind.signed,IntKind.bits] using a4 _ (List.getElem_mem hq)
  ·rw [List.getD_eq_getElem?_getD,List.getElem?_eq_none (Nat.le_of_not_lt hq)];exact⟨by decide,by decide⟩
 ·intro q
  by_cases hq:q < ys.length
  ·have e:ys.getD q 0=ys[q]:=by rw [List.getD_eq_getElem?_getD,List.getElem?_eq_getElem hq];rfl
   rw [e]
   simpa [Lit.wf,IntKind.min,IntKind.max,IntKind.signed,IntKind.bits] using b4 _ (List.getElem_mem hq)
  ·rw [List.getD_eq_getElem?_getD,List.getElem?_eq_none (Nat.le_of_not_lt hq)];exact⟨by decide,by decide⟩
theorem nd_ks {w:World} {r:Reach} {b0:Nat} {a0 a1 a2 a7 a8 a9 a10 a11 a12 a13 a14 a15 a16 a17 a18:Value} {K S P O:Int} (hv:Value.okWide Tryd.prog w r b0 29 (.agg #[a0,a1,a2,.int .i64 K,.int .i64 S,.int .i64 P,.int .i64 O,a7,a8,a9,a10,a11,a12,a13,a14,a15,a16,a17,a18])) :
  (-9223372036854775808≤K∧K≤9223372036854775807)∧(-9223372036854775808≤S∧S≤9223372036854775807)∧(-9223372036854775808≤P∧P≤9223372036854775807)∧(-9223372036854775808≤O∧O≤9223372036854775807):=by
 have h:=fun (i:Nat) (v:Value) hi u hu k hk=>CKind.cell_int (u:=u) Tryd.underlying29 CKind.node_types hv i v hi hu k hk
 obtain⟨q3,e3,l3,u3⟩:=h 3 _ rfl _ rfl .i64 Tryd.underlying3
 obtain⟨q4,e4,l4,u4⟩:=h 4 _ rfl _ rfl .i64 Tryd.underlying3
 obtain⟨q5,e5,l5,u5⟩:=h 5 _ rfl _ rfl .i64 Tryd.underlying3
 obtain⟨q6,e6,l6,u6⟩:=h 6 _ rfl _ rfl .i64 Tryd.underlying3
 cases e3;cases e4;cases e5;cases e6
 exact⟨⟨l3,u3⟩,⟨l4,u4⟩,⟨l5,u5⟩,l6,u6⟩
def nd7:Nd:=⟨7,0,0,0,0,0,0,0,0,none,0,0,none,0,0,1,0,0,0,0,0,0,127⟩
theorem nd7_ok (w:World) (B:Nat):NdL w B nd7 [] [] :=
 ⟨⟨by decide,by decide,by decide,by decide,by decide,by decide,⟨[],rfl,le_refl _,by decide,by simp,Kit.Rd.nil⟩,⟨[],rfl,le_refl _,by decide,by simp,Kit.Rd.nil⟩⟩,rfl,rfl,⟨le_refl _,le_refl _⟩,fun q=>by simp,fun q=>by simp,Kit.Rd.nil,Kit.Rd.nil⟩
theorem nd7_small:nd7.Small:=⟨by decide,by decide,by decide,by decide⟩
theorem nd7_is:gnZ nd7 [] [] (-128) 50 0 0=(0,50,0):=by decide +kernel
theorem known32 (w:World) (hT:zah w):Calls Tryd.prog 8 #[] w fun e w'=>e=.returned (.bool true)∧Below w.heap.size w w':=by
 have CN:=hid (cgnode_to (w:=w) nd7 nd7_small hT (-128) 50 0 0 (by decide) [] [] (nd7_ok w _) (by decide) (by decide))
 rw [nd7_is] at CN
 have HQ:=hid (eqReach 0 50 0 50)
 have HG:=hid Tryd.eqGuardType42
 go_enter Tryd.func8,Tryd.ntmps8
 go_upto_region 2 with (go_at_call 11;(refine CN.out.mono ?_);rintro e w1 ⟨rfl,hb⟩;have HB1:=hid hb;clear hb)
 have HB2:=hid (HB1.out.alloc HB1.out.size (.cells #[.int .i8 0,.int .i8 50] 42))
 obtain⟨q0,q1⟩:=zbe 0 50 42 w1
 generalize w1.alloc (.cells #[.int .i8 0,.int .i8 50] 42)=W2 at HB2 q0 q1 ⊢
 have hq:=HQ.out
 have hgd:=HG.out
 go_wp2_with fail
 go_ret
 exact⟨rfl,HB2.out⟩
end CGuard
end
end Go.Proofs.YtceehogkckdbkaaDoor
