/- -/
import Derived.Test.YtjhlkmnpfibgaaaDoorGB11
import Derived.Test.YtjhlkmnpfibgaaaDoorGB27
open Nat (le_refl lt_of_succ_lt lt_succ_self)
set_option linter.unusedVariables false
set_option linter.unusedSimpArgs false
set_option maxRecDepth 100000
set_option maxHeartbeats 16000000
namespace Go.Proofs.YtjhlkmnpfibgaaaDoor
namespace CConv
end CConv
namespace CDense
end CDense
namespace CSat
end CSat
namespace CTensor
end CTensor
open Go Go.ChangeShapes Go.WideShapes Go.ChangeAt Go.RowKit Go.Deep
section
namespace CGraph
open Plain CSat CFix CShape CTensor CConv CDense CDepth CKind
abbrev Tri:=Int × Int × Int
def triA (a:Array Value):Tri:=(intOf (a.getD 0 undef),intOf (a.getD 1 undef),intOf (a.getD 2 undef))
theorem zbc (x y z:Int):triA #[.int .i64 x,.int .i64 y,.int .i64 z]=(x,y,z):=rfl
def sndZ (x:Nd):Int:=if x.kd=6 then x.nb else x.na
def zbk (x:Nd) (many:Nat):Bool:=decide (0≤x.na∧x.na < many∧(x.kd=6→0≤x.nb∧x.nb < many))
def tri0:Tri:=(0,0,0)
def nextE (x:Nd) (l:List Tri):Int :=
 x.shE (l.getD x.na.toNat tri0).1 (l.getD x.na.toNat tri0).2.1 (l.getD x.na.toNat tri0).2.2 (l.getD (sndZ x).toNat tri0).1 (l.getD (sndZ x).toNat tri0).2.1 (l.getD (sndZ x).toNat tri0).2.2
def nextT (x:Nd) (l:List Tri):Tri :=
 triA (x.shV (l.getD x.na.toNat tri0).1 (l.getD x.na.toNat tri0).2.1 (l.getD x.na.toNat tri0).2.2 (l.getD (sndZ x).toNat tri0).1 (l.getD (sndZ x).toNat tri0).2.1 (l.getD (sndZ x).toNat tri0).2.2)
def stopZ (x:Nd) (l:List Tri):Int:=if x.checkZ≠0 then x.checkZ else if zbk x l.length=false then 8 else nextE x l
def shL (X:Nat→Nd) (t0:Tri):Nat→List Tri
 | 0=>[t0]
 | k+1=>shL X t0 k ++ [nextT (X k) (shL X t0 k)]
theorem shL_len (X:Nat→Nd) (t0:Tri) (k:Nat):(shL X t0 k).length=k+1:=by
 induction k with
 | zero=>rfl
 | succ k ih=>simp [shL,ih]
def za6 (X:Nat→Nd) (t0:Tri):Nat→Option (Nat × Int)
 | 0=>none
 | k+1=>match za6 X t0 k with
   | some r=>some r
   | none=>if stopZ (X k) (shL X t0 k)=0 then none else some (k,stopZ (X k) (shL X t0 k))
theorem stopAt_go {X:Nat→Nd} {t0:Tri} {k:Nat} (h:za6 X t0 k=none) (hz:stopZ (X k) (shL X t0 k)=0):za6 X t0 (k+1)=none:=by
 simp [za6,h,hz]
theorem stopAt_end {X:Nat→Nd} {t0:Tri} {k n:Nat} (hk:k < n) (h:za6 X t0 k=none) (hz:stopZ (X k) (shL X t0 k)≠0):za6 X t0 n=some (k,stopZ (X k) (shL X t0 k)):=by
 obtain⟨d,rfl⟩:∃ d,n=k+1+d:=⟨n - (k+1),by omega⟩
 clear hk
 induction d with
 | zero=>simp [za6,h,hz]
 | succ d ih=>rw [show k+1+(d+1)=(k+1+d)+1 by omega,za6,ih]
theorem check_nb {x:Nd} (h:x.checkZ=0) (hk:x.kd≠6):x.nb=0:=by
 have h1:x.moreB=false:=by
  unfold Nd.checkZ at h
  by_cases a:x.kd < 1∨9 < x.kd
  ·rw [if_pos a] at h;omega
  ·rw [if_neg a] at h
   cases e:x.moreB with
   | false=>rfl
   | true=>rw [e] at h;simp at h
 unfold Nd.moreB at h1
 simp only [Bool.or_eq_false_iff,Bool.and_eq_false_iff] at h1
 have h2:=h1.1.1.1.2
 rcases h2 with h2 | h2
 ·exact absurd (by simpa using h2) hk
 ·simpa using h2.1.1.1
theorem sh_indep (x:Nd) (hk:x.kd≠6) (H W C a b c a' b' c':Int):x.shE H W C a b c=x.shE H W C a' b' c'∧x.shV H W C a b c=x.shV H W C a' b' c':=by
 have e:x.shE H W C a b c=x.shE H W C a' b' c':=by
  unfold Nd.shE
  simp only [hk,false_and,if_false]
 refine⟨e,?_⟩
 unfold Nd.shV
 rw [e]
def opL (x:Nd):List Int:=if x.kd=6 then [x.na,x.nb] else [x.na]
def earB:List Int→Int→Bool
 | [],_=>true
 | v :: r,m=>decide (0≤v∧v < m) && earB r m
theorem ear_there (x:Nd) (many:Nat):earB (opL x) many=zbk x many:=by
 unfold opL zbk
 by_cases h:x.kd=6
 ·rw [if_pos h];simp [earB,h];rw [Bool.eq_iff_iff];simp;omega
 ·rw [if_neg h];simp [earB,h]
def tvV:List Tri→List Value
 | []=>[]
 | a :: r=>.int .i64 a.1 :: .int .i64 a.2.1 :: .int .i64 a.2.2 :: tvV r
theorem tvV_len:∀ L,(tvV L).length=L.length * 3
 | []=>rfl
 | a :: r=>by simp [tvV,tvV_len r];omega
theorem tvV_append:∀ L M,tvV (L ++ M)=tvV L ++ tvV M
 | [],M=>rfl
 | a :: r,M=>by simp [tvV,tvV_append r M]
theorem tvV_get:∀ (L:List Tri) (k:Nat) (a:Tri),L[k]?=some a→(tvV L)[k * 3]?=some (.int .i64 a.1)∧(tvV L)[k * 3+1]?=some (.int .i64 a.2.1)∧(tvV L)[k * 3+2]?=some (.int .i64 a.2.2)
 | [],k,a,h=>by simp at h
 | b :: r,0,a,h=>by simp at h;subst h;simp [tvV]
 | b :: r,k+1,a,h=>by
   obtain⟨h1,h2,h3⟩:=tvV_get r k a (by simpa using h)
   rw [show (k+1) * 3=k * 3+1+1+1 by omega,tvV]
   refine⟨?_,?_,?_⟩
   ·simpa using h1
   ·rw [show k * 3+1+1+1+1=(k * 3+1)+1+1+1 by omega];simpa using h2
   ·rw [show k * 3+1+1+1+2=(k * 3+2)+1+1+1 by omega];simpa using h3
theorem tv_cells {w:World} {B:Nat} {A:Option Addr} {L:List Tri} (h:Kit.Rd w B A (tvV L)) (hn:0 < L.length) :
  ∃ b o,A=some ⟨b,o,none⟩∧b < B∧∀ k a,L[k]?=some a→w.rangeAt b (o+k * 3) [.int .i64 a.1,.int .i64 a.2.1,.int .i64 a.2.2]:=by
 obtain⟨b,o,e,hb,hc⟩:=h.plain (by rw [tvV_len];omega)
 refine⟨b,o,e,hb,fun k a hk q v hq=>?_⟩
 obtain⟨h1,h2,h3⟩:=tvV_get L k a hk
 match q,hq with
 | 0,hq=>simp at hq;subst hq;exact hc (k * 3) _ h1
 | 1,hq=>simp at hq;subst hq;rw [Nat.add_assoc];exact hc (k * 3+1) _ h2
 | 2,hq=>simp at hq;subst hq;rw [Nat.add_assoc];exact hc (k * 3+2) _ h3
theorem NodesAt.below {w w':World} {B:Nat} {A:Option Addr} {n:Nat} {X:Nat→Nd} (h:NodesAt w B A n X) (hb:Below B w w'):NodesAt w' B A n X:=fun j hj=>by
 obtain⟨b,o,e,h1,h2⟩:=h j hj
 exact⟨b,o,e,h1,fun q v hq=>(hb.cell (p:=⟨b,o+j * 19+q,none⟩) h1).trans (h2 q v hq)⟩
theorem NodesAt.more {w:World} {B B':Nat} {A:Option Addr} {n:Nat} {X:Nat→Nd} (h:NodesAt w B A n X) (hb:B≤B'):NodesAt w B' A n X:=fun j hj=>by
 obtain⟨b,o,e,h1,h2⟩:=h j hj
 exact⟨b,o,e,Nat.lt_of_lt_of_le h1 hb,h2⟩
end CGraph
end
end Go.Proofs.YtjhlkmnpfibgaaaDoor
