/- -/
import Derived.Test.YtoffcaldhojjoaaDoorGVP15
import Derived.Test.YtoffcaldhojjoaaDoorGVP16
open Nat (le_refl lt_of_succ_lt lt_succ_self)
set_option linter.unusedVariables false
set_option linter.unusedSimpArgs false
set_option maxRecDepth 100000
set_option maxHeartbeats 16000000
namespace Go.Proofs.YtoffcaldhojjoaaDoor
namespace CConv
end CConv
namespace CDense
end CDense
namespace CFix
end CFix
namespace CGraph
end CGraph
namespace CJoin
end CJoin
namespace CKind
end CKind
namespace CSat
end CSat
namespace CShape
end CShape
namespace CSpan
end CSpan
namespace CTensor
end CTensor
open Go Go.ChangeShapes Go.WideShapes Go.ChangeAt Go.RowKit Go.Deep
section
namespace CKind
open Plain CSat CFix CShape CTensor CConv CDense CDepth
def Nd.shE (x:Nd) (H W C H2 W2 C2:Int):Int :=
 if x.kd=1 then convE H W C x.K x.S x.P x.O x.nW x.nB else if x.kd=2 then depthE H W C x.K x.S x.P x.nW x.nB else if x.kd=3 then denseE H W C x.O x.nW x.nB else if x.kd=4∨x.kd=5 then zau H W C x.K x.S x.P C
 else if x.kd < 1∨9 < x.kd then 6 else if zad H W C=false then 5 else if x.kd=6∧(H == H2 && (W == W2 && C == C2))=false then 5 else if x.kd=8 then (if x.P < 0∨4 < x.P then 2 else if zad (H+2 * x.P) (W+2 * x.P) C=false then 5 else 0) else 0
def Nd.shV (x:Nd) (H W C H2 W2 C2:Int):Array Value :=
 if x.kd=1 then convS H W C x.K x.S x.P x.O x.nW x.nB else if x.kd=2 then depthS H W C x.K x.S x.P x.nW x.nB else if x.kd=3 then denseS H W C x.O x.nW x.nB else if x.kd=4∨x.kd=5 then zav H W C x.K x.S x.P C
 else if x.shE H W C H2 W2 C2≠0 then #[.int .i64 0,.int .i64 0,.int .i64 0] else if x.kd=9 then #[.int .i64 1,.int .i64 1,.int .i64 (zan H W C)] else if x.kd=8 then #[.int .i64 (H+2 * x.P),.int .i64 (W+2 * x.P),.int .i64 C] else #[.int .i64 H,.int .i64 W,.int .i64 C]
theorem Nd.sh_three (x:Nd) (H W C H2 W2 C2:Int):∃ u0 u1 u2,x.shV H W C H2 W2 C2=#[.int .i64 u0,.int .i64 u1,.int .i64 u2]:=by
 unfold Nd.shV convS depthS denseS zav
 repeat' split
 all_goals exact⟨_,_,_,rfl⟩
def ShapeIs (f:FuncId) (x:Nd):Prop:=∀ (H W C H2 W2 C2 e u0 u1 u2:Int) (_:x.shE H W C H2 W2 C2=e) (_:x.shV H W C H2 W2 C2=#[.int .i64 u0,.int .i64 u1,.int .i64 u2]) (w:World),
 Calls Tryd.prog f #[.agg x.val,.agg #[.int .i64 H,.int .i64 W,.int .i64 C],.agg #[.int .i64 H2,.int .i64 W2,.int .i64 C2]] w fun r w'=>r=.returned (.tuple #[.agg #[.int .i64 u0,.int .i64 u1,.int .i64 u2],.int .i64 e])∧Below w.heap.size w w'
theorem three_inj {a b c d e f:Int} (h:(#[.int .i64 a,.int .i64 b,.int .i64 c]:Array Value)=#[.int .i64 d,.int .i64 e,.int .i64 f]):a=d∧b=e∧c=f:=by simpa using h
end CKind
end
section
namespace CGraph
open Plain CSat CFix CShape CTensor CConv CDense CDepth CKind
abbrev Tri:=Int × Int × Int
def triA (a:Array Value):Tri:=(intOf (a.getD 0 undef),intOf (a.getD 1 undef),intOf (a.getD 2 undef))
def sndZ (x:Nd):Int:=if x.kd=6 then x.nb else x.na
def zbm (x:Nd) (many:Nat):Bool:=decide (0≤x.na∧x.na < many∧(x.kd=6→0≤x.nb∧x.nb < many))
def tri0:Tri:=(0,0,0)
def nextE (x:Nd) (l:List Tri):Int :=
 x.shE (l.getD x.na.toNat tri0).1 (l.getD x.na.toNat tri0).2.1 (l.getD x.na.toNat tri0).2.2 (l.getD (sndZ x).toNat tri0).1 (l.getD (sndZ x).toNat tri0).2.1 (l.getD (sndZ x).toNat tri0).2.2
def nextT (x:Nd) (l:List Tri):Tri :=
 triA (x.shV (l.getD x.na.toNat tri0).1 (l.getD x.na.toNat tri0).2.1 (l.getD x.na.toNat tri0).2.2 (l.getD (sndZ x).toNat tri0).1 (l.getD (sndZ x).toNat tri0).2.1 (l.getD (sndZ x).toNat tri0).2.2)
def stopZ (x:Nd) (l:List Tri):Int:=if x.checkZ≠0 then x.checkZ else if zbm x l.length=false then 8 else nextE x l
def shL (X:Nat→Nd) (t0:Tri):Nat→List Tri
 | 0=>[t0]
 | k+1=>shL X t0 k ++ [nextT (X k) (shL X t0 k)]
theorem shL_len (X:Nat→Nd) (t0:Tri) (k:Nat):(shL X t0 k).length=k+1:=by
 induction k with
 | zero=>rfl
 | succ k ih=>simp [shL,ih]
def zbb (X:Nat→Nd) (t0:Tri):Nat→Option (Nat × Int)
 | 0=>none
 | k+1=>match zbb X t0 k with
   | some r=>some r
   | none=>if stopZ (X k) (shL X t0 k)=0 then none else some (k,stopZ (X k) (shL X t0 k))
theorem stopAt_go {X:Nat→Nd} {t0:Tri} {k:Nat} (h:zbb X t0 k=none) (hz:stopZ (X k) (shL X t0 k)=0):zbb X t0 (k+1)=none:=by
 simp [zbb,h,hz]
theorem stopAt_end {X:Nat→Nd} {t0:Tri} {k n:Nat} (hk:k < n) (h:zbb X t0 k=none) (hz:stopZ (X k) (shL X t0 k)≠0):zbb X t0 n=some (k,stopZ (X k) (shL X t0 k)):=by
 obtain⟨d,rfl⟩:∃ d,n=k+1+d:=⟨n - (k+1),by omega⟩
 clear hk
 induction d with
 | zero=>simp [zbb,h,hz]
 | succ d ih=>rw [show k+1+(d+1)=(k+1+d)+1 by omega,zbb,ih]
theorem check_nb {x:Nd} (h:x.checkZ=0) (hk:x.kd≠6):x.nb=0:=by
 have h1:x.moreB=false:=by
  unfold Nd.checkZ at h
  by_cases a:x.kd < 1∨9 < x.kd
  ·rw [if_pos a] at h;omega
  ·rw [if_neg a] at h
   cases e:x.moreB with
   | false=>rfl
   | true=>rw [e] at h;simp at h
 unfold Nd.moreB at h1
 simp only [Bool.or_eq_false_iff,Bool.and_eq_false_iff] at h1
 have h2:=h1.1.1.1.2
 rcases h2 with h2 | h2
 ·exact absurd (by simpa using h2) hk
 ·simpa using h2.1.1.1
theorem sh_indep (x:Nd) (hk:x.kd≠6) (H W C a b c a' b' c':Int):x.shE H W C a b c=x.shE H W C a' b' c'∧x.shV H W C a b c=x.shV H W C a' b' c':=by
 have e:x.shE H W C a b c=x.shE H W C a' b' c':=by
  unfold Nd.shE
  simp only [hk,false_and,if_false]
 refine⟨e,?_⟩
 unfold Nd.shV
 rw [e]
def opL (x:Nd):List Int:=if x.kd=6 then [x.na,x.nb] else [x.na]
def earB:List Int→Int→Bool
 | [],_=>true
 | v :: r,m=>decide (0≤v∧v < m) && earB r m
theorem ear_there (x:Nd) (many:Nat):earB (opL x) many=zbm x many:=by
 unfold opL zbm
 by_cases h:x.kd=6
 ·rw [if_pos h];simp [earB,h];rw [Bool.eq_iff_iff];simp;omega
 ·rw [if_neg h];simp [earB,h]
def tvV:List Tri→List Value
 | []=>[]
 | a :: r=>.int .i64 a.1 :: .int .i64 a.2.1 :: .int .i64 a.2.2 :: tvV r
theorem tvV_len:∀ L,(tvV L).length=L.length * 3
 | []=>rfl
 | a :: r=>by simp [tvV,tvV_len r];omega
theorem tvV_append:∀ L M,tvV (L ++ M)=tvV L ++ tvV M
 | [],M=>rfl
 | a :: r,M=>by simp [tvV,tvV_append r M]
theorem tvV_get:∀ (L:List Tri) (k:Nat) (a:Tri),L[k]?=some a→(tvV L)[k * 3]?=some (.int .i64 a.1)∧(tvV L)[k * 3+1]?=some (.int .i64 a.2.1)∧(tvV L)[k * 3+2]?=some (.int .i64 a.2.2)
 | [],k,a,h=>by simp at h
 | b :: r,0,a,h=>by simp at h;subst h;simp [tvV]
 | b :: r,k+1,a,h=>by
   obtain⟨h1,h2,h3⟩:=tvV_get r k a (by simpa using h)
   rw [show (k+1) * 3=k * 3+1+1+1 by omega,tvV]
   refine⟨?_,?_,?_⟩
   ·simpa using h1
   ·rw [show k * 3+1+1+1+1=(k * 3+1)+1+1+1 by omega];simpa using h2
   ·rw [show k * 3+1+1+1+2=(k * 3+2)+1+1+1 by omega];simpa using h3
theorem tv_cells {w:World} {B:Nat} {A:Option Addr} {L:List Tri} (h:Kit.Rd w B A (tvV L)) (hn:0 < L.length) :
  ∃ b o,A=some ⟨b,o,none⟩∧b < B∧∀ k a,L[k]?=some a→w.rangeAt b (o+k * 3) [.int .i64 a.1,.int .i64 a.2.1,.int .i64 a.2.2]:=by
 obtain⟨b,o,e,hb,hc⟩:=h.plain (by rw [tvV_len];omega)
 refine⟨b,o,e,hb,fun k a hk q v hq=>?_⟩
 obtain⟨h1,h2,h3⟩:=tvV_get L k a hk
 match q,hq with
 | 0,hq=>simp at hq;subst hq;exact hc (k * 3) _ h1
 | 1,hq=>simp at hq;subst hq;rw [Nat.add_assoc];exact hc (k * 3+1) _ h2
 | 2,hq=>simp at hq;subst hq;rw [Nat.add_assoc];exact hc (k * 3+2) _ h3
theorem NodesAt.below {w w':World} {B:Nat} {A:Option Addr} {n:Nat} {X:Nat→Nd} (h:NodesAt w B A n X) (hb:Below B w w'):NodesAt w' B A n X:=fun j hj=>by
 obtain⟨b,o,e,h1,h2⟩:=h j hj
 exact⟨b,o,e,h1,fun q v hq=>(hb.cell (p:=⟨b,o+j * 19+q,none⟩) h1).trans (h2 q v hq)⟩
theorem NodesAt.more {w:World} {B B':Nat} {A:Option Addr} {n:Nat} {X:Nat→Nd} (h:NodesAt w B A n X) (hb:B≤B'):NodesAt w B' A n X:=fun j hj=>by
 obtain⟨b,o,e,h1,h2⟩:=h j hj
 exact⟨b,o,e,Nat.lt_of_lt_of_le h1 hb,h2⟩
end CGraph
end
section
namespace CGuard
open Plain CSat CFix CShape CTensor CConv CSpan CKind CGraph CJoin
def gnZ (x:Nd) (ws bs:List Int) (l h l2 h2:Int):Int × Int × Int :=
 if x.checkZ≠0 then (0,0,x.checkZ) else if h < l∨(x.kd=6∧h2 < l2) then (0,0,2)
 else if x.kd=1∨x.kd=2∨x.kd=3 then
  (if 1≤x.nB∧x.nW % x.nB=0 then (if fitB (lsW ws bs x.nW x.nB l h x.Z (decide (0 < x.P))) (grW ws bs x.nW x.nB l h x.Z (decide (0 < x.P)))=true then (min (heldZ (c32 (lsW ws bs x.nW x.nB l h x.Z (decide (0 < x.P)))) x.m1 x.s1 x.z1 x.lo x.hi) (heldZ (c32 (grW ws bs x.nW x.nB l h x.Z (decide (0 < x.P)))) x.m1 x.s1 x.z1 x.lo x.hi),max (heldZ (c32 (lsW ws bs x.nW x.nB l h x.Z (decide (0 < x.P)))) x.m1 x.s1 x.z1 x.lo x.hi) (heldZ (c32 (grW ws bs x.nW x.nB l h x.Z (decide (0 < x.P)))) x.m1 x.s1 x.z1 x.lo x.hi),0) else (0,0,10)) else (min (heldZ (c32 (0)) x.m1 x.s1 x.z1 x.lo x.hi) (heldZ (c32 (0)) x.m1 x.s1 x.z1 x.lo x.hi),max (heldZ (c32 (0)) x.m1 x.s1 x.z1 x.lo x.hi) (heldZ (c32 (0)) x.m1 x.s1 x.z1 x.lo x.hi),0))
 else if x.kd=6 then (oneZ l l2 x.Z x.Y x.m1 x.s1 x.z1 x.m2 x.s2 x.lo x.hi,oneZ h h2 x.Z x.Y x.m1 x.s1 x.z1 x.m2 x.s2 x.lo x.hi,0) else if x.kd=7 then (heldZ (l - x.Z) x.m1 x.s1 x.z1 x.lo x.hi,heldZ (h - x.Z) x.m1 x.s1 x.z1 x.lo x.hi,0) else if x.kd=8∧0 < x.P then (min l x.Z,max h x.Z,0) else (l,h,0)
theorem check_kd {x:Nd} (h:x.checkZ=0):1≤x.kd∧x.kd≤9:=by
 unfold Nd.checkZ at h
 split at h
 ·cases h
 ·rename_i h1;omega
end CGuard
end
end Go.Proofs.YtoffcaldhojjoaaDoor
