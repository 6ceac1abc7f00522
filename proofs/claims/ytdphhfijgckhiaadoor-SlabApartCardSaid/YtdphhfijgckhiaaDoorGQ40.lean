/- -/
import Derived.Test.YtdphhfijgckhiaaDoorProg
import Derived.Handy
import Derived.Test.YtdphhfijgckhiaaDoorGQ39
open Go.Lib (hid)
open Nat (le_refl lt_of_succ_lt lt_succ_self)
set_option linter.unusedVariables false
set_option linter.unusedSimpArgs false
set_option maxRecDepth 100000
set_option maxHeartbeats 16000000
namespace Go.Proofs.YtdphhfijgckhiaaDoor
open Go Go.ChangeShapes Go.WideShapes Go.ChangeAt Go.RowKit
section
namespace CArena
open Plain
def rowV (S:Nat→Int) (n:Nat):List Value:=(List.range n).map fun k=>.int .i64 (S k)
theorem rowV_len (S:Nat→Int) (n:Nat):(rowV S n).length=n:=by simp [rowV]
theorem rowV_at (S:Nat→Int) {n k:Nat} (h:k < n):(rowV S n)[k]?=some (.int .i64 (S k)):=by simp [rowV,h]
theorem rd_at {w:World} {B:Nat} {A:Option Addr} {S:Nat→Int} {n:Nat} (h:Kit.Rd w B A (rowV S n)) (hn:0 < n) :
  ∃ b o,A=some ⟨b,o,none⟩∧b < B∧∀ k,k < n→w.cell? ⟨b,o+k,none⟩=some (.int .i64 (S k)):=by
 obtain⟨b,o,e,hb,hc⟩:=h.plain (by rw [rowV_len];exact hn)
 exact⟨b,o,e,hb,fun k hk=>hc k _ (rowV_at S hk)⟩
theorem max_ite (a b:Int):(if a < b then b else a)=max a b:=by split <;> omega
theorem min_ite (a b:Int):(if b < a then b else a)=min a b:=by split <;> omega
theorem meet_to (a b c d:Int) (w:World):Calls Tryd.prog 45 #[.agg #[.int .i64 a,.int .i64 b],.agg #[.int .i64 c,.int .i64 d]] w fun e w'=>e=.returned (.bool (meetZ a b c d))∧Below w.heap.size w w':=by
 have k1:=max_ite a c
 have k2:=min_ite b d
 unfold meetZ
 generalize max a c=x at *
 generalize min b d=y at *
 go_enter Tryd.func45,Tryd.ntmps45
 go_wp2_with fail
 go_ret
 exact⟨rfl,by go_grown⟩
theorem live_to (U:Nat→Int) (i n c:Nat) (s:Int) (sn:Nat) (hs:s=sn) (hi:i < n) (A:Option Addr) (w:World) {B:Nat} (hr:Kit.Rd w B A (rowV U n)):Calls Tryd.prog 46 #[.int .i64 i,.slice A n c,.int .i64 s] w fun e w'=>e=.returned (.bool (liveZ U i sn))∧w=w':=by
 obtain⟨b,o,rfl, -,hc⟩:=rd_at hr (by omega)
 have hci:=hc i hi
 have i0:(0:Int)≤(i:Int):=by omega
 have i1:(i:Int) < (n:Int):=by omega
 have k1:=max_ite (i:Int) (U i)
 unfold liveZ
 rw [← hs]
 generalize max (i:Int) (U i)=x at *
 generalize U i=y at *
 clear hc hr hs
 go_enter Tryd.func46,Tryd.ntmps46
 go_wp2_with fail
 go_ret
 exact⟨rfl,rfl⟩
def inN (S:Nat→Int) (m:Int):Nat→Bool
 | 0=>true
 | k+1=>inN S m k && decide (0≤S k∧S k≤m)
theorem inN_iff {S:Nat→Int} {m:Int} {n:Nat} : inN S m n=true↔∀ k,k < n→0≤S k∧S k≤m:=by
 induction n with
 | zero=>simp [inN]
 | succ n ih =>
   simp only [inN,Bool.and_eq_true,ih,decide_eq_true_eq]
   constructor
   ·intro ⟨h1,h2⟩ k hk
    rcases Nat.lt_succ_iff_lt_or_eq.1 hk with h | rfl
    ·exact h1 k h
    ·exact h2
   ·intro h
    exact⟨fun k hk=>h k (by omega),h n (by omega)⟩
theorem inN_no {S:Nat→Int} {m:Int} {n k:Nat} (hk:k < n) (h:¬ (0≤S k∧S k≤m)):inN S m n=false:=by
 cases e:inN S m n with
 | false=>rfl
 | true=>exact absurd (inN_iff.1 e k hk) h
theorem within_to (S:Nat→Int) (m:Int) (n c:Nat) (hn:n≤4000) (A:Option Addr) (w:World) {B:Nat} (hr:Kit.Rd w B A (rowV S n)):Calls Tryd.prog 44 #[.slice A n c,.int .i64 m] w fun e w'=>e=.returned (.bool (inN S m n))∧w=w':=by
 have HR:=hid hr
 clear hr
 go_enter Tryd.func44,Tryd.ntmps44
 go_wp2_with fail
 go_loop [9] (fun u=>∃ k:Nat,k≤n∧u=.int .i64 k∧Hid (inN S m k=true)) (fun u=>n - (intOf u).toNat)
 case atStart=>exact⟨0,Nat.zero_le _,rfl,hid rfl⟩
 case round =>
  obtain⟨k,hk,rfl,hi⟩:=hrel
  by_cases hlt:k < n
  ·obtain⟨b,o,rfl, -,h1⟩:=rd_at HR.out (by omega)
   have c1:=h1 k hlt
   have k0:(0:Int)≤(k:Int):=by omega
   have k1:(k:Int) < (n:Int):=by omega
   clear h1
   by_cases hz:0≤S k∧S k≤m
   ·have hz1:¬ S k < 0:=by omega
    have hz2:¬ m < S k:=by omega
    have hs:inN S m (k+1)=true:=by rw [inN,hi.out];simpa using hz
    have HS:=hid hs
    clear hi hs hz
    go_wp2_with fail
    go_round
    case rel=>exact⟨k+1,by omega,by go_num,HS⟩
    case measure=>simp [intOf];omega
   ·have hf:=inN_no hlt hz
    have HF:=hid hf
    clear hi hf
    by_cases hz1:S k < 0
    ·clear hz
     go_wp2_with fail
     go_ret
     exact⟨by rw [HF.out];rfl,rfl⟩
    ·have hz2:m < S k:=by omega
     clear hz
     go_wp2_with fail
     go_ret
     exact⟨by rw [HF.out];rfl,rfl⟩
  ·obtain rfl:k=n:=by omega
   go_wp2_with fail
   go_ret
   exact⟨by rw [hi.out];rfl,rfl⟩
def za5 (S:Nat→Int) (n m:Nat):Bool:=decide (n=m∧n≤1024) && inN S 1048576 n
theorem zai (S:Nat→Int) (n c m c':Nat) (hn:n≤1024) (A A':Option Addr) (w:World) {B:Nat} (hr:Kit.Rd w B A (rowV S n)):Calls Tryd.prog 27 #[.slice A n c,.slice A' m c'] w fun e w'=>e=.returned (.bool (za5 S n m))∧w=w':=by
 have HR:=hid hr
 have h2:(n:Int)≤1024:=by omega
 clear hr
 by_cases h:n=m
 ·subst h
  have e:za5 S n n=inN S 1048576 n:=by simp [za5,hn]
  rw [e]
  have C:=hid (fun w':World=>fun (hr:Kit.Rd w' B A (rowV S n))=>within_to S 1048576 n c (by omega) A w' hr)
  generalize inN S 1048576 n=t at *
  clear e
  go_enter Tryd.func27,Tryd.ntmps27
  go_wp2_with (go_at_call 44;(refine (C.out _ HR.out).mono ?_);rintro e w1 ⟨rfl,rfl⟩)
  go_ret
  exact⟨rfl,rfl⟩
 ·have e:za5 S n m=false:=by simp [za5,h]
  rw [e]
  have h3:((n:Int) == (m:Int))=false:=by simp;omega
  have h4:¬ (n:Int)=(m:Int):=by omega
  clear e
  go_enter Tryd.func27,Tryd.ntmps27
  go_wp2_with fail
  go_ret
  exact⟨rfl,rfl⟩
end CArena
end
end Go.Proofs.YtdphhfijgckhiaaDoor
