/- -/
import Derived.Test.YtdphhfijgckhiaaDoorGP4
open Go.Lib (hid)
open Nat (le_refl lt_of_succ_lt lt_succ_self)
set_option linter.unusedVariables false
set_option linter.unusedSimpArgs false
set_option maxRecDepth 100000
set_option maxHeartbeats 16000000
namespace Go.Proofs.YtdphhfijgckhiaaDoor
open Go Go.ChangeShapes Go.WideShapes Go.ChangeAt Go.RowKit
section
namespace CArena
open Plain
def metB (S U:Nat→Int) (i k:Nat) (p q:Int):Bool:=decide ((i:Int)≤U k∧S i≠0∧S k≠0∧q < p+S i∧p < q+S k)
def PastZ (i s:Nat) (R:Bool):Prop:=i < s→R=false
theorem rmeet_to (S U:Nat→Int) (i k n c c':Nat) (hki:k < i) (hi:i < n) (hn:n≤900) (p q:Int) (hp0 : -4000000000000≤p) (hp1:p≤4000000000000) (hq0 : -4000000000000≤q) (hq1:q≤4000000000000) (hSi:0≤S i∧S i≤1048576) (hSk:0≤S k∧S k≤1048576) (A A':Option Addr) (w:World) {B B':Nat} (hr:Kit.Rd w B A (rowV S n)) (hr':Kit.Rd w B' A' (rowV U n)) :
  Calls Tryd.prog 40 #[.slice A n c,.slice A' n c',.int .i64 i,.int .i64 p,.int .i64 k,.int .i64 q] w fun e w'=>e=.returned (.bool (metB S U i k p q))∧w=w':=by
 obtain⟨b,o,rfl, -,h1⟩:=rd_at hr (by omega)
 have d1:=h1 i hi
 have d2:=h1 k (by omega)
 have i0:(0:Int)≤(i:Int):=by omega
 have i1:(i:Int) < (n:Int):=by omega
 have k0:(0:Int)≤(k:Int):=by omega
 have k1:(k:Int) < (n:Int):=by omega
 have e1:IntKind.i64.wrap (p+S i)=p+S i:=IntWalk.i64_in _ (by omega)
 have e2:IntKind.i64.wrap (q+S k)=q+S k:=IntWalk.i64_in _ (by omega)
 have HU:=hid hr'
 obtain⟨x,hx⟩:∃ x,S i=x:=⟨_,rfl⟩
 obtain⟨y,hy⟩:∃ y,S k=y:=⟨_,rfl⟩
 obtain⟨R,hR⟩:∃ R,metB S U i k p q=R:=⟨_,rfl⟩
 have hR2:=hR
 unfold metB at hR2
 rw [hx,hy] at hR2
 rw [hR]
 rw [hx] at d1 e1 hSi
 rw [hy] at d2 e2 hSk
 have HRR:=hid hR2
 clear hr hr' h1 hR hx hy hR2
 by_cases t1:x=0
 ·have t2:(x == 0)=true:=by simp [t1]
  obtain rfl:R=false:=by rw [← HRR.out];simp [t1]
  go_enter Tryd.func40,Tryd.ntmps40
  go_wp2_with fail
  go_ret
  exact⟨rfl,rfl⟩
 have t2:(x == 0)=false:=by simp [t1]
 by_cases t3:y=0
 ·have t4:(y == 0)=true:=by simp [t3]
  obtain rfl:R=false:=by rw [← HRR.out];simp [t3]
  go_enter Tryd.func40,Tryd.ntmps40
  go_wp2_with fail
  go_ret
  exact⟨rfl,rfl⟩
 have t4:(y == 0)=false:=by simp [t3]
 by_cases t5:p+x≤q
 ·obtain rfl:R=false:=by rw [← HRR.out];simp;omega
  go_enter Tryd.func40,Tryd.ntmps40
  go_wp2_with fail
  go_ret
  exact⟨rfl,rfl⟩
 by_cases t6:q+y≤p
 ·obtain rfl:R=false:=by rw [← HRR.out];simp;omega
  go_enter Tryd.func40,Tryd.ntmps40
  go_wp2_with fail
  go_ret
  exact⟨rfl,rfl⟩
 have hR3:R=decide ((i:Int)≤U k):=by
  rw [← HRR.out,decide_eq_decide];omega
 have HR3:=hid hR3
 clear hR3 HRR
 go_enter Tryd.func40,Tryd.ntmps40
 go_wp2_with fail
 go_loop [13] (fun u=>∃ s:Nat,s≤n∧u=.int .i64 s∧Hid (PastZ i s R)) (fun u=>n - (intOf u).toNat)
 case atStart=>exact⟨0,Nat.zero_le _,rfl,hid (fun h=>absurd h (Nat.not_lt_zero _))⟩
 case round =>
  obtain⟨s,hs,rfl,hi2⟩:=hrel
  by_cases hlt:s < n
  ·have s1:(s:Int) < (n:Int):=by omega
   have C1:=hid (fun wx:World=>fun (h:Kit.Rd wx B' A' (rowV U n))=>there_to U i s n c' hi A' wx h)
   have C2:=hid (fun wx:World=>fun (h:Kit.Rd wx B' A' (rowV U n))=>there_to U k s n c' (by omega) A' wx h)
   obtain⟨a,ha⟩:∃ a,thereZ U i s=a:=⟨_,rfl⟩
   obtain⟨b2,hb2⟩:∃ a,thereZ U k s=a:=⟨_,rfl⟩
   have hstep:(a=false∨b2=false)→i < s+1→R=false:=by
    intro hab hs2
    by_cases hs3:i < s
    ·exact hi2.out hs3
    ·obtain rfl:s=i:=by omega
     have ha2:a=true:=by rw [← ha];simp [thereZ]
     have hb3 : b2 = false := by rcases hab with h | h; · rw [ha2] at h; cases h
                                 ·exact h
     rw [HR3.out, ← hb3, ← hb2]
     simp only [thereZ];rw [decide_eq_decide];omega
   have hend:a=true→b2=true→R=true:=by
    intro h3 h4
    rw [← ha] at h3;rw [← hb2] at h4
    simp only [thereZ,decide_eq_true_eq] at h3 h4
    rw [HR3.out];simp;omega
   simp only [ha] at C1
   simp only [hb2] at C2
   clear hi2 ha hb2
   cases a with
   | false =>
     have HST:Hid (PastZ i (s+1) R):=hid (hstep (.inl rfl))
     clear hstep hend
     go_wp2_with (go_at_call 51;(refine (C1.out _ HU.out).mono ?_);rintro e w1 ⟨rfl,rfl⟩)
     go_round
     case rel=>exact⟨s+1,by omega,by go_num,HST⟩
     case measure=>simp [intOf];omega
   | true =>
     cases b2 with
     | false =>
       have HST:Hid (PastZ i (s+1) R):=hid (hstep (.inr rfl))
       clear hstep hend
       go_wp2_with (first
        | (go_at_call 51;(with_reducible refine (C1.out _ HU.out).mono ?_);rintro e w1 ⟨rfl,rfl⟩)
        | (go_at_call 51;(with_reducible refine (C2.out _ HU.out).mono ?_);rintro e w1 ⟨rfl,rfl⟩))
       go_round
       case rel=>exact⟨s+1,by omega,by go_num,HST⟩
       case measure=>simp [intOf];omega
     | true =>
       obtain rfl:R=true:=hend rfl rfl
       clear hstep hend
       go_wp2_with (first
        | (go_at_call 51;(with_reducible refine (C1.out _ HU.out).mono ?_);rintro e w1 ⟨rfl,rfl⟩)
        | (go_at_call 51;(with_reducible refine (C2.out _ HU.out).mono ?_);rintro e w1 ⟨rfl,rfl⟩))
       go_ret
       exact⟨rfl,rfl⟩
  ·obtain rfl:s=n:=by omega
   obtain rfl:R=false:=hi2.out hi
   go_wp2_with fail
   go_ret
   exact⟨rfl,rfl⟩
theorem fitN_no {S U P:Nat→Int} {i:Nat} {p:Int} {n k:Nat} (hk:k < n) (h:hitB S U P i p k=true):fitN S U P i p n=false:=by
 cases e:fitN S U P i p n with
 | false=>rfl
 | true=>have:=fitN_iff.1 e k hk;rw [h] at this;cases this
theorem rfits_to (S U P:Nat→Int) (i n c c' c3:Nat) (hi:i < n) (hn:n≤900) (p:Int) (hp0:0≤p) (hp1:p≤1000000000) (hS:∀ k,k < n→0≤S k∧S k≤1048576) (hP:∀ k,k < i→0≤P k∧P k≤1000000000) (A A' A3:Option Addr) (w:World) {B B' B3:Nat} (hr:Kit.Rd w B A (rowV S n)) (hr':Kit.Rd w B' A' (rowV U n)) (hr3:Kit.Rd w B3 A3 (rowV P i)) :
  Calls Tryd.prog 21 #[.slice A n c,.slice A' n c',.slice A3 i c3,.int .i64 i,.int .i64 p] w fun e w'=>e=.returned (.bool (fitB S U P i p))∧w=w':=by
 have HR:=hid hr
 have HR':=hid hr'
 have HR3:=hid hr3
 have HS:=hid hS
 have HP:=hid hP
 clear hr hr' hr3 hS hP
 go_enter Tryd.func21,Tryd.ntmps21
 go_wp2_with fail
 go_loop [11] (fun u=>∃ k:Nat,k≤i∧u=.int .i64 k∧Hid (fitN S U P i p k=true)) (fun u=>i - (intOf u).toNat)
 case atStart=>exact⟨0,Nat.zero_le _,rfl,hid rfl⟩
 case round =>
  obtain⟨k,hk,rfl,hf⟩:=hrel
  by_cases hlt:k < i
  ·obtain⟨b,o,rfl, -,h1⟩:=rd_at HR3.out (by omega)
   have d1:=h1 k hlt
   have k0:(0:Int)≤(k:Int):=by omega
   have k1:(k:Int) < (i:Int):=by omega
   obtain⟨p2,p3⟩:=HP.out k hlt
   have C:=hid (rmeet_to S U i k n c c' hlt hi hn p (P k) (by omega) (by omega) (by omega) (by omega) (HS.out i hi) (HS.out k (by omega)) A A' w HR.out HR'.out)
   have hm:metB S U i k p (P k)=hitB S U P i p k:=rfl
   rw [hm] at C
   clear h1 hm
   cases hh:hitB S U P i p k with
   | true =>
     rw [hh] at C
     have hno:=fitN_no (n:=i) hlt hh
     have HNO:=hid hno
     clear hh hno hf
     go_wp2_with (go_at_call 40;(refine C.out.mono ?_);rintro e w1 ⟨rfl,rfl⟩)
     go_ret
     exact⟨by rw [show fitB S U P i p=false from HNO.out];rfl,rfl⟩
   | false =>
     rw [hh] at C
     have hy:fitN S U P i p (k+1)=true:=by rw [fitN,hf.out,hh];rfl
     have HY:=hid hy
     clear hh hy hf
     go_wp2_with (go_at_call 40;(refine C.out.mono ?_);rintro e w1 ⟨rfl,rfl⟩)
     go_round
     case rel=>exact⟨k+1,by omega,by go_num,HY⟩
     case measure=>simp [intOf];omega
  ·obtain rfl:k=i:=by omega
   go_wp2_with fail
   go_ret
   exact⟨by rw [show fitB S U P k p=true from hf.out];rfl,rfl⟩
end CArena
end
end Go.Proofs.YtdphhfijgckhiaaDoor
