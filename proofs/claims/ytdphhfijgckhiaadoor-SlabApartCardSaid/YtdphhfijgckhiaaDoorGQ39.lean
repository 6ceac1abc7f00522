/- -/
import Derived.Test.YtdphhfijgckhiaaDoorGQ3
open Nat (le_refl lt_of_succ_lt lt_succ_self)
set_option linter.unusedVariables false
set_option linter.unusedSimpArgs false
set_option maxRecDepth 100000
set_option maxHeartbeats 16000000
namespace Go.Proofs.YtdphhfijgckhiaaDoor
section
namespace CArena
open Plain
/-! ### along a row in order -/
def meetZ (a b c d:Int):Bool:=decide (max a c < min b d)
def freeL:List (Int × Int)→Int→Int→Int
 | [],at_,_=>at_
 | (f,t) :: r,at_,s=>if meetZ f t at_ (at_+s) then freeL r t s else freeL r at_ s
theorem meetZ_iff {a b c d:Int} : meetZ a b c d=true↔a < b∧a < d∧c < b∧c < d:=by
 simp only [meetZ,decide_eq_true_eq];omega
theorem meetZ_no {a b c d:Int} : meetZ a b c d=false↔¬ (a < b∧a < d∧c < b∧c < d):=by
 rw [← meetZ_iff];simp
theorem freeL_spec (s:Int) (hs:0≤s):∀ (L:List (Int × Int)) (at_:Int),L.Pairwise (fun a b=>a.1≤b.1) →
  (freeL L at_ s=at_∨∃ a∈L,freeL L at_ s=a.2)∧(∀ a∈L,meetZ a.1 a.2 (freeL L at_ s) (freeL L at_ s+s)=false)∧at_≤freeL L at_ s∧(∀ q,at_≤q→q < freeL L at_ s→∃ a∈L,meetZ a.1 a.2 q (q+s)=true)
 | [],at_,_=>⟨.inl rfl,fun a h=>(nomatch h),Int.le_refl _,fun q h1 h2=>by simp only [freeL] at h2;omega⟩
 | (f,t) :: r,at_,hp=>by
  have hp2:=List.pairwise_cons.1 hp
  cases hm:meetZ f t at_ (at_+s) with
  | true =>
    have e:freeL ((f,t) :: r) at_ s=freeL r t s:=by simp [freeL,hm]
    rw [e]
    obtain⟨h1,h2,h3,h4⟩:=freeL_spec s hs r t hp2.2
    have hm2:=meetZ_iff.1 hm
    refine⟨?_,?_,by omega,?_⟩
    ·rcases h1 with h | ⟨a,ha,h⟩
     ·exact .inr ⟨(f,t),List.mem_cons_self,h⟩
     ·exact .inr ⟨a,List.mem_cons_of_mem _ ha,h⟩
    ·intro a ha
     rcases List.mem_cons.1 ha with rfl | ha
     ·rw [meetZ_no];simp only;omega
     ·exact h2 a ha
    ·intro q hq1 hq2
     by_cases hqt:t≤q
     ·obtain⟨a,ha,h⟩:=h4 q hqt hq2
      exact⟨a,List.mem_cons_of_mem _ ha,h⟩
     ·refine⟨(f,t),List.mem_cons_self,?_⟩
      rw [meetZ_iff];simp only;omega
  | false =>
    have e:freeL ((f,t) :: r) at_ s=freeL r at_ s:=by simp [freeL,hm]
    rw [e]
    obtain⟨h1,h2,h3,h4⟩:=freeL_spec s hs r at_ hp2.2
    have hm2:=meetZ_no.1 hm
    refine⟨?_,?_,h3,?_⟩
    ·rcases h1 with h | ⟨a,ha,h⟩
     ·exact .inl h
     ·exact .inr ⟨a,List.mem_cons_of_mem _ ha,h⟩
    ·intro a ha
     rcases List.mem_cons.1 ha with rfl | ha
     ·rw [meetZ_no];simp only
      by_cases hr:freeL r at_ s=at_
      ·omega
      ·obtain⟨a,ha,h⟩:=h4 at_ (Int.le_refl _) (by omega)
       have h5:=meetZ_iff.1 h
       have h6:f≤a.1:=hp2.1 a ha
       omega
     ·exact h2 a ha
    ·intro q hq1 hq2
     obtain⟨a,ha,h⟩:=h4 q hq1 hq2
     exact⟨a,List.mem_cons_of_mem _ ha,h⟩
/-! ### the document's -/
def hitB (S U P:Nat→Int) (i:Nat) (p:Int) (k:Nat):Bool:=decide ((i:Int)≤U k∧S i≠0∧S k≠0∧P k < p+S i∧p < P k+S k)
def fitN (S U P:Nat→Int) (i:Nat) (p:Int):Nat→Bool
 | 0=>true
 | k+1=>fitN S U P i p k && !hitB S U P i p k
def fitB (S U P:Nat→Int) (i:Nat) (p:Int):Bool:=fitN S U P i p i
theorem fitN_iff {S U P:Nat→Int} {i:Nat} {p:Int} {n:Nat} : fitN S U P i p n=true↔∀ k,k < n→hitB S U P i p k=false:=by
 induction n with
 | zero=>simp [fitN]
 | succ n ih =>
   simp only [fitN,Bool.and_eq_true,ih,Bool.not_eq_true']
   constructor
   ·intro ⟨h1,h2⟩ k hk
    rcases Nat.lt_succ_iff_lt_or_eq.1 hk with h | rfl
    ·exact h1 k h
    ·exact h2
   ·intro h
    exact⟨fun k hk=>h k (by omega),h n (by omega)⟩
def bestF (S U P:Nat→Int) (i:Nat):Nat→Int
 | 0=>if fitB S U P i 0 then 0 else -1
 | k+1=>if (bestF S U P i k < 0∨P k+S k < bestF S U P i k)∧fitB S U P i (P k+S k)=true then P k+S k else bestF S U P i k
def plL (S U:Nat→Int):Nat→List Int
 | 0=>[]
 | n+1=>plL S U n ++ [bestF S U (fun k=>(plL S U n).getD k 0) n n]
theorem plL_len (S U:Nat→Int) (n:Nat):(plL S U n).length=n:=by
 induction n with
 | zero=>rfl
 | succ n ih=>simp [plL,ih]
def plc (S U:Nat→Int) (k:Nat):Int:=(plL S U (k+1)).getD k 0
theorem plL_at (S U:Nat→Int) {k:Nat} : ∀ {n:Nat},k < n→(plL S U n)[k]?=some (plc S U k)
 | n+1,h=>by
   rcases Nat.lt_succ_iff_lt_or_eq.1 h with h2 | rfl
   ·rw [plL,List.getElem?_append_left (by rw [plL_len];exact h2)]
    exact plL_at S U h2
   ·unfold plc
    rw [List.getD_eq_getElem?_getD]
    have hl:k < (plL S U (k+1)).length:=by rw [plL_len];omega
    rw [List.getElem?_eq_getElem hl];rfl
theorem hitB_congr {S U P Q:Nat→Int} {i k:Nat} {p:Int} (h:P k=Q k):hitB S U P i p k=hitB S U Q i p k:=by unfold hitB;rw [h]
theorem fitN_congr {S U P Q:Nat→Int} {i:Nat} {p:Int} {n:Nat} (h:∀ k,k < n→P k=Q k):fitN S U P i p n=fitN S U Q i p n:=by
 induction n with
 | zero=>rfl
 | succ n ih=>rw [fitN,fitN,ih (fun k hk=>h k (by omega)),hitB_congr (h n (by omega))]
theorem bestF_congr {S U P Q:Nat→Int} {i n:Nat} (hn:n≤i) (h:∀ k,k < i→P k=Q k):bestF S U P i n=bestF S U Q i n:=by
 have hf:∀ p,fitB S U P i p=fitB S U Q i p:=fun p=>fitN_congr h
 induction n with
 | zero=>rw [bestF,bestF,hf]
 | succ n ih=>rw [bestF,bestF,ih (by omega),h n (by omega),hf]
theorem plc_eq (S U:Nat→Int) (i:Nat):plc S U i=bestF S U (plc S U) i i:=by
 have h:plc S U i=bestF S U (fun k=>(plL S U i).getD k 0) i i:=by
  unfold plc
  rw [plL,List.getD_eq_getElem?_getD,List.getElem?_append_right (by rw [plL_len];omega),plL_len]
  simp
 rw [h]
 exact bestF_congr (le_refl _) fun k hk=>by
  show (plL S U i).getD k 0=_
  rw [List.getD_eq_getElem?_getD,plL_at S U hk];rfl
def Least (S U P:Nat→Int) (i:Nat) (p:Int):Prop:=0≤p∧fitB S U P i p=true∧∀ q,0≤q→q < p→fitB S U P i q=false
theorem bestF_least {S U P:Nat→Int} {i:Nat} {p:Int} (h:Least S U P i p) (hc:p=0∨∃ k,k < i∧p=P k+S k) (hn:∀ k,k < i→0≤P k+S k):bestF S U P i i=p:=by
 have inv:∀ n,n≤i→(bestF S U P i n = -1∧fitB S U P i 0=false∧∀ k,k < n→fitB S U P i (P k+S k)=false) ∨
   (0≤bestF S U P i n∧fitB S U P i (bestF S U P i n)=true∧(fitB S U P i 0=true→bestF S U P i n≤0)∧∀ k,k < n→fitB S U P i (P k+S k)=true→bestF S U P i n≤P k+S k):=by
  intro n
  induction n with
  | zero =>
    intro _
    rw [bestF]
    by_cases h0:fitB S U P i 0=true
    ·rw [if_pos h0];exact .inr ⟨by omega,h0,fun _=>by omega,fun k hk=>by omega⟩
    ·rw [if_neg h0];exact .inl ⟨rfl,by simpa using h0,fun k hk=>by omega⟩
  | succ n ih =>
    intro hni
    have h0:=hn n (by omega)
    rw [bestF]
    by_cases hc:(bestF S U P i n < 0∨P n+S n < bestF S U P i n)∧fitB S U P i (P n+S n)=true
    ·rw [if_pos hc]
     refine .inr ⟨h0,hc.2,fun hz=>?_,fun k hk hf=>?_⟩
     ·rcases ih (by omega) with ⟨a,b,c⟩ | ⟨a,b,c,d⟩
      ·rw [hz] at b;cases b
      ·have:=c hz;omega
     ·rcases Nat.lt_succ_iff_lt_or_eq.1 hk with h2 | rfl
      ·rcases ih (by omega) with ⟨a,b,c⟩ | ⟨a,b,c,d⟩
       ·rw [c k h2] at hf;cases hf
       ·have:=d k h2 hf;omega
      ·omega
    ·rw [if_neg hc]
     rcases ih (by omega) with ⟨a,b,c⟩ | ⟨a,b,c,d⟩
     ·refine .inl ⟨a,b,fun k hk=>?_⟩
      rcases Nat.lt_succ_iff_lt_or_eq.1 hk with h2 | rfl
      ·exact c k h2
      ·cases hf:fitB S U P i (P k+S k) with
       | false=>rfl
       | true=>exact absurd ⟨.inl (by omega),hf⟩ hc
     ·refine .inr ⟨a,b,c,fun k hk hf=>?_⟩
      rcases Nat.lt_succ_iff_lt_or_eq.1 hk with h2 | rfl
      ·exact d k h2 hf
      ·by_cases hlt:P k+S k < bestF S U P i k
       ·exact absurd ⟨.inr hlt,hf⟩ hc
       ·omega
 obtain⟨p0,pf,pl⟩:=h
 rcases inv i (le_refl _) with ⟨a,b,c⟩ | ⟨a,b,c,d⟩
 ·rcases hc with rfl | ⟨k,hk,rfl⟩
  ·rw [b] at pf;cases pf
  ·rw [c k hk] at pf;cases pf
 ·have hle:bestF S U P i i≤p:=by
   rcases hc with rfl | ⟨k,hk,rfl⟩
   ·exact c pf
   ·exact d k hk pf
  by_cases hlt:bestF S U P i i < p
  ·rw [pl _ a hlt] at b;cases b
  ·omega
def occL (S U P:Nat→Int) (i:Nat):Nat→List (Int × Int)
 | 0=>[]
 | k+1=>occL S U P i k ++ (if (i:Int)≤U k then [(P k,P k+S k)] else [])
theorem occL_mem {S U P:Nat→Int} {i n:Nat} {a:Int × Int} : a∈occL S U P i n↔∃ k,k < n∧(i:Int)≤U k∧a=(P k,P k+S k):=by
 induction n with
 | zero=>simp [occL]
 | succ n ih =>
   rw [occL,List.mem_append,ih]
   constructor
   ·rintro (⟨k,h1,h2,h3⟩ | h)
    ·exact⟨k,by omega,h2,h3⟩
    ·by_cases hu:(i:Int)≤U n
     ·rw [if_pos hu] at h
      exact⟨n,by omega,hu,by simpa using h⟩
     ·rw [if_neg hu] at h;cases h
   ·rintro⟨k,h1,h2,h3⟩
    rcases Nat.lt_succ_iff_lt_or_eq.1 h1 with h | rfl
    ·exact .inl ⟨k,h,h2,h3⟩
    ·exact .inr (by rw [if_pos h2];simpa using h3)
theorem occL_len (S U P:Nat→Int) (i n:Nat):(occL S U P i n).length≤n:=by
 induction n with
 | zero=>exact le_refl _
 | succ n ih=>rw [occL,List.length_append];split <;> simp <;> omega
theorem hit_meet {S U P:Nat→Int} {i k:Nat} {p:Int} (h1:0≤S i) (h2:0≤S k):hitB S U P i p k=(decide ((i:Int)≤U k) && meetZ (P k) (P k+S k) p (p+S i)):=by
 rw [Bool.eq_iff_iff,Bool.and_eq_true,meetZ_iff]
 simp only [hitB,decide_eq_true_eq]
 omega
theorem fit_occ {S U P:Nat→Int} {i:Nat} {p:Int} (hS:∀ k,k≤i→0≤S k):fitB S U P i p=true↔∀ a∈occL S U P i i,meetZ a.1 a.2 p (p+S i)=false:=by
 unfold fitB
 rw [fitN_iff]
 constructor
 ·intro h a ha
  obtain⟨k,h1,h2,rfl⟩:=occL_mem.1 ha
  have h3:=h k h1
  rw [hit_meet (hS i (le_refl _)) (hS k (by omega))] at h3
  simpa [h2] using h3
 ·intro h k hk
  rw [hit_meet (hS i (le_refl _)) (hS k (by omega))]
  by_cases hu:(i:Int)≤U k
  ·rw [h _ (occL_mem.2 ⟨k,hk,hu,rfl⟩)];simp
  ·simp [hu]
theorem free_best {S U P:Nat→Int} {i:Nat} {L:List (Int × Int)} (hS:∀ k,k≤i→0≤S k) (hP:∀ k,k < i→0≤P k) (hL:∀ a,a∈L↔a∈occL S U P i i) (hp:L.Pairwise (fun a b=>a.1≤b.1)):freeL L 0 (S i)=bestF S U P i i:=by
 obtain⟨h1,h2,h3,h4⟩:=freeL_spec (S i) (hS i (le_refl _)) L 0 hp
 refine (bestF_least ⟨h3,?_,?_⟩ ?_ ?_).symm
 ·rw [fit_occ hS];exact fun a ha=>h2 a ((hL a).2 ha)
 ·intro q hq1 hq2
  obtain⟨a,ha,h⟩:=h4 q hq1 hq2
  cases hf:fitB S U P i q with
  | false=>rfl
  | true =>
    have:=(fit_occ hS).1 hf a ((hL a).1 ha)
    rw [h] at this;cases this
 ·rcases h1 with h | ⟨a,ha,h⟩
  ·exact .inl h
  ·obtain⟨k,hk,_,rfl⟩:=occL_mem.1 ((hL a).1 ha)
   exact .inr ⟨k,hk,h⟩
 ·intro k hk
  have:=hP k hk;have:=hS k (by omega);omega
/-! ### the room -/
def sumZ (S:Nat→Int):Nat→Int
 | 0=>0
 | n+1=>sumZ S n+S n
def roomZ (S P:Nat→Int):Nat→Int
 | 0=>0
 | n+1=>max (roomZ S P n) (P n+S n)
theorem room_end {S P:Nat→Int} {k n:Nat} (h:k < n):P k+S k≤roomZ S P n:=by
 induction n with
 | zero=>omega
 | succ n ih =>
   rw [roomZ]
   rcases Nat.lt_succ_iff_lt_or_eq.1 h with h2 | rfl
   ·have:=ih h2;omega
   ·omega
theorem room_nonneg (S P:Nat→Int) (n:Nat):0≤roomZ S P n:=by
 induction n with
 | zero=>exact Int.le_refl _
 | succ n ih=>rw [roomZ];omega
theorem plc_least {S U:Nat→Int} : ∀ (i:Nat),(∀ k,k≤i→0≤S k)→Least S U (plc S U) i (plc S U i):=by
 intro i
 induction i using Nat.strongRecOn with
 | _ i ih =>
   intro hS
   have hP:∀ k,k < i→0≤plc S U k:=fun k hk=>(ih k hk fun j hj=>hS j (by omega)).1
   obtain⟨L,hL,hp⟩:∃ L:List (Int × Int),(∀ a,a∈L↔a∈occL S U (plc S U) i i)∧L.Pairwise (fun a b=>a.1≤b.1):=by
    refine⟨(occL S U (plc S U) i i).mergeSort (fun a b=>decide (a.1≤b.1)),fun a=>by rw [List.mem_mergeSort],?_⟩
    have h:=List.pairwise_mergeSort (le:=fun (a b:Int × Int)=>decide (a.1≤b.1)) (fun a b c h1 h2=>by simp at *;omega) (fun a b=>by simp;omega) (occL S U (plc S U) i i)
    exact h.imp fun h=>by simpa using h
   have hb:=free_best hS hP hL hp
   obtain⟨h1,h2,h3,h4⟩:=freeL_spec (S i) (hS i (le_refl _)) L 0 hp
   rw [plc_eq, ← hb]
   refine⟨h3,?_,?_⟩
   ·rw [fit_occ hS];exact fun a ha=>h2 a ((hL a).2 ha)
   ·intro q hq1 hq2
    obtain⟨a,ha,h⟩:=h4 q hq1 hq2
    cases hf:fitB S U (plc S U) i q with
    | false=>rfl
    | true =>
      have:=(fit_occ hS).1 hf a ((hL a).1 ha)
      rw [h] at this;cases this
theorem room_sum {S U:Nat→Int} {n:Nat} (hS:∀ k,k < n→0≤S k):roomZ S (plc S U) n≤sumZ S n:=by
 induction n with
 | zero=>exact Int.le_refl _
 | succ n ih =>
   rw [roomZ,sumZ]
   have h1:=ih fun k hk=>hS k (by omega)
   have h2:=hS n (by omega)
   obtain⟨a,b,c⟩:=plc_least (S:=S) (U:=U) n fun k hk=>hS k (by omega)
   have h3:plc S U n≤roomZ S (plc S U) n:=by
    by_cases hlt:roomZ S (plc S U) n < plc S U n
    ·have h4:=c _ (room_nonneg _ _ _) hlt
     have h5:fitB S U (plc S U) n (roomZ S (plc S U) n)=true:=by
      unfold fitB
      rw [fitN_iff]
      intro k hk
      have:=room_end (S:=S) (P:=plc S U) hk
      simp only [hitB,decide_eq_false_iff_not]
      omega
     rw [h5] at h4;cases h4
    ·omega
   omega
/-! ### the greatest sum -/
def liveZ (U:Nat→Int) (i s:Nat):Bool:=decide ((s:Int)≤max (i:Int) (U i))
/-! ### how great it all is -/
theorem sum_bound {S:Nat→Int} {n:Nat} (hS:∀ k,k < n→0≤S k∧S k≤1048576):0≤sumZ S n∧sumZ S n≤(n:Int) * 1048576:=by
 induction n with
 | zero=>simp [sumZ]
 | succ n ih =>
   have h1:=ih fun k hk=>hS k (by omega)
   have h2:=hS n (by omega)
   rw [sumZ];push_cast;omega
theorem plc_bound {S U:Nat→Int} {n k:Nat} (hS:∀ k,k < n→0≤S k∧S k≤1048576) (hk:k < n):0≤plc S U k∧plc S U k+S k≤(n:Int) * 1048576:=by
 have h1:=(plc_least (S:=S) (U:=U) k fun j hj=>(hS j (by omega)).1).1
 have h2:=room_end (S:=S) (P:=plc S U) hk
 have h3:=room_sum (S:=S) (U:=U) fun k hk=>(hS k hk).1
 have h4:=(sum_bound hS).2
 omega
end CArena
end
end Go.Proofs.YtdphhfijgckhiaaDoor
