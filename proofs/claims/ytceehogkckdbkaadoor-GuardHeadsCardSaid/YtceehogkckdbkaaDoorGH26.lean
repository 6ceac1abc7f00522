/- -/
import Derived.Test.YtceehogkckdbkaaDoorGH25
open Nat (le_refl lt_of_succ_lt lt_succ_self)
set_option linter.unusedVariables false
set_option linter.unusedSimpArgs false
set_option maxRecDepth 100000
set_option maxHeartbeats 16000000
namespace Go.Proofs.YtceehogkckdbkaaDoor
namespace CConv
end CConv
namespace CFix
end CFix
namespace CSat
end CSat
namespace CShape
end CShape
namespace CTensor
end CTensor
open Go Go.ChangeShapes Go.WideShapes Go.ChangeAt Go.RowKit
section
namespace CSpan
open Plain CSat CFix CShape CTensor CConv
def pairV (P Q:Nat→Int):Nat→List Value
 | 0=>[]
 | n+1=>pairV P Q n ++ [.int .i64 (P n),.int .i64 (Q n)]
theorem pairV_len (P Q:Nat→Int) (n:Nat):(pairV P Q n).length=n * 2:=by
 induction n with
 | zero=>rfl
 | succ n ih=>simp only [pairV,List.length_append,ih,List.length_cons,List.length_nil];omega
theorem zaw (P Q:Nat→Int) {n k:Nat} (h:k < n):(pairV P Q n)[k * 2]?=some (.int .i64 (P k))∧(pairV P Q n)[k * 2+1]?=some (.int .i64 (Q k)):=by
 induction n with
 | zero=>omega
 | succ n ih =>
   have hl:=pairV_len P Q n
   by_cases e:k=n
   ·subst e
    simp only [pairV]
    rw [List.getElem?_append_right (by omega),List.getElem?_append_right (by omega),hl,Nat.sub_self,show k * 2+1 - k * 2=1 by omega]
    exact⟨rfl,rfl⟩
   ·obtain⟨h1,h2⟩:=ih (by omega)
    simp only [pairV]
    rw [List.getElem?_append_left (by omega),List.getElem?_append_left (by omega)]
    exact⟨h1,h2⟩
theorem rd_pair {w:World} {B:Nat} {A:Option Addr} {P Q:Nat→Int} {n:Nat} (h:Kit.Rd w B A (pairV P Q n)) (hn:0 < n) :
  ∃ b o,A=some ⟨b,o,none⟩∧b < B∧∀ k,k < n→w.cell? ⟨b,o+k * 2,none⟩=some (.int .i64 (P k))∧w.cell? ⟨b,o+k * 2+1,none⟩=some (.int .i64 (Q k)):=by
 obtain⟨b,o,e,hb,hc⟩:=h.plain (by rw [pairV_len];omega)
 exact⟨b,o,e,hb,fun k hk=>⟨hc _ _ (zaw P Q hk).1,by rw [Nat.add_assoc];exact hc _ _ (zaw P Q hk).2⟩⟩
def holdF (P Q:Nat→Int):Nat→Bool
 | 0=>true
 | k+1=>holdF P Q k && (decide (-2147483648≤P k) && decide (Q k≤2147483647))
theorem holdF_iff (P Q:Nat→Int) (n:Nat):holdF P Q n=true↔∀ k,k < n → -2147483648≤P k∧Q k≤2147483647:=by
 induction n with
 | zero=>simp [holdF]
 | succ n ih =>
   simp only [holdF,Bool.and_eq_true,decide_eq_true_eq,ih]
   constructor
   ·intro h k hk
    by_cases e:k=n
    ·subst e;exact h.2
    ·exact h.1 k (by omega)
   ·intro h
    exact⟨fun k hk=>h k (by omega),h n (by omega)⟩
def loF (P:Nat→Int):Nat→Int
 | 0=>0
 | k+1=>min (if k=0 then P 0 else loF P k) (P k)
def hiF (Q:Nat→Int):Nat→Int
 | 0=>0
 | k+1=>max (if k=0 then Q 0 else hiF Q k) (Q k)
theorem loF_one (P:Nat→Int):loF P 1=P 0:=by simp [loF]
theorem hiF_one (Q:Nat→Int):hiF Q 1=Q 0:=by simp [hiF]
theorem loF_more (P:Nat→Int) {k:Nat} (h:0 < k):loF P (k+1)=min (loF P k) (P k):=by simp only [loF];rw [if_neg (by omega)]
theorem hiF_more (Q:Nat→Int) {k:Nat} (h:0 < k):hiF Q (k+1)=max (hiF Q k) (Q k):=by simp only [hiF];rw [if_neg (by omega)]
end CSpan
end
end Go.Proofs.YtceehogkckdbkaaDoor
