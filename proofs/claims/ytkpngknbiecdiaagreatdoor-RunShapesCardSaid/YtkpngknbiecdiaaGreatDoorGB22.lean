/- Texts of this seat, one behind the other: RunDef, LowerNum, LowerChunk, TensorSameTwo, TensorRep. -/
import Derived.Deep.CutRange
import Derived.RangeFuncBox
import Derived.RangeFuncLeaves
import Derived.RangeFuncCalls
import Derived.RangeFuncNested
import Derived.Shelf.Abstract
import Derived.OwnWalkIn
import Derived.TacticsInMore
import Derived.LoopNIn
import Derived.LoopIn
import Derived.Laws.CopyOwn
import Derived.Laws.AppendOwn
import Derived.Deep.OwnRows
import Derived.IntWalk
import Derived.Test.YtkpngknbiecdiaaGreatDoorGB3
import Derived.Test.YtkpngknbiecdiaaGreatDoorGB5
import Derived.Test.YtkpngknbiecdiaaGreatDoorGB6
import Derived.Test.YtkpngknbiecdiaaGreatDoorGB11
import Derived.Test.YtkpngknbiecdiaaGreatDoorGB14
import Derived.Test.YtkpngknbiecdiaaGreatDoorGB17
import Derived.Test.YtkpngknbiecdiaaGreatDoorGB19
import Derived.Test.YtkpngknbiecdiaaGreatDoorGB21
section
namespace Go.Proofs.YtkpngknbiecdiaaGreatDoor.CRun
set_option maxRecDepth 100000
open Go Go.ChangeShapes Go.WideShapes Go.ChangeAt Go.RowKit Go.Deep
open Plain CSat CShape CTensor CConv CKind
set_option linter.unusedVariables false
set_option linter.unusedSimpArgs false
structure Res where
 (X Y U:Int)
 (m:Nat)
 (xs:List Int)
 (er:Int)
def Res.bad (e:Int):Res:=⟨0,0,0,0,[],e⟩
def MAcc (w:World) (r:Res) (e:Ending) (w':World):Prop :=
 ∃ v,e=.returned (.tuple #[.agg #[.int .i64 r.X,.int .i64 r.Y,.int .i64 r.U,v],.int .i64 r.er])∧w'.ownsRow w.heap.size 21 1 v r.m (I32v r.xs)∧Below w.heap.size w w'
def MTen (w:World) (r:Res) (e:Ending) (w':World):Prop :=
 ∃ v,e=.returned (.tuple #[.agg #[.int .i64 r.X,.int .i64 r.Y,.int .i64 r.U,v],.int .i64 r.er])∧w'.ownsRow w.heap.size 22 1 v r.m (I8s r.xs)∧Below w.heap.size w w'
theorem own_none {w:World} (T:TypeId) (B:Nat):w.ownsRow B T 1 (.slice none 0 0) 0 []:=⟨rfl,.inl ⟨rfl,rfl⟩⟩
theorem range_4r {w:World} {b:Nat} {x y z u:Value} (h0:w.cell? ⟨b,0,none⟩=some x) (h1:w.cell? ⟨b,1,none⟩=some y) (h2:w.cell? ⟨b,2,none⟩=some z) (h3:w.cell? ⟨b,3,none⟩=some u):w.rangeAt b 0 [x,y,z,u]:=by
 intro j v hj
 match j,hj with
 | 0,hj=>simpa [← hj] using h0
 | 1,hj=>simpa [← hj] using h1
 | 2,hj=>simpa [← hj] using h2
 | 3,hj=>simpa [← hj] using h3
 | j+4,hj=>simp at hj
theorem nd_k0 {g:Nat} {x:Nd} {w:World} {k:Int} (h:NdAt g x w) (hk:x.kd=k):w.cell? ⟨g,0,none⟩=some (.int .i64 k):=h.at 0 _ (by show some (Value.int .i64 x.kd)=_;rw [hk])
theorem ent1 (x:Nd) (H W C:Int) (A:Option Addr) (n c:Nat) (T:TypeId) (w:World):∃ W0,W0=(((w.alloc (.cells x.val 28)).alloc (.cells #[.int .i64 H,.int .i64 W,.int .i64 C,.slice A n c] 32)).alloc (.cells #[.int .i64 0,.int .i64 0,.int .i64 0,.slice none 0 0] T)) ∧
  Hid (NdAt w.heap.size x W0)∧Hid (Below w.heap.size w W0)∧w.heap.size+2 < W0.heap.size∧Hid (BoxAt (w.heap.size+1) H W C A n c W0)∧Hid (FreshT (w.heap.size+2) W0):=by
 have hT:=boxNew H W C A n c 32 (w.alloc (.cells x.val 28))
 have hF:=freshNew T ((w.alloc (.cells x.val 28)).alloc (.cells #[.int .i64 H,.int .i64 W,.int .i64 C,.slice A n c] 32))
 simp only [World.size_alloc] at hT hF
 exact⟨_,rfl,Lib.hid ((NdAt.new x _ w).below (B:=w.heap.size+1) (by omega) (((Below.refl _ _).alloc (by simp) _).alloc (by first | (simp;done) | (simp;omega)) _)),Lib.hid ((((Below.refl _ _).alloc (Nat.le_refl _) _).alloc (by first | (simp;done) | (simp;omega)) _).alloc (by first | (simp;done) | (simp;omega)) _),by simp,Lib.hid (hT.below (Nat.lt_succ_self _) ((Below.refl _ _).alloc (by simp) _)),Lib.hid hF⟩
theorem ent2 (x:Nd) (H W C H2 W2 C2:Int) (A B:Option Addr) (n c m d:Nat) (T:TypeId) (w:World):∃ W0,W0=((((w.alloc (.cells x.val 28)).alloc (.cells #[.int .i64 H,.int .i64 W,.int .i64 C,.slice A n c] 32)).alloc (.cells #[.int .i64 H2,.int .i64 W2,.int .i64 C2,.slice B m d] 32)).alloc (.cells #[.int .i64 0,.int .i64 0,.int .i64 0,.slice none 0 0] T)) ∧
  Hid (NdAt w.heap.size x W0)∧Hid (Below w.heap.size w W0)∧w.heap.size+3 < W0.heap.size∧Hid (BoxAt (w.heap.size+1) H W C A n c W0)∧Hid (BoxAt (w.heap.size+2) H2 W2 C2 B m d W0)∧Hid (FreshT (w.heap.size+3) W0):=by
 have hT:=boxNew H W C A n c 32 (w.alloc (.cells x.val 28))
 have hU:=boxNew H2 W2 C2 B m d 32 ((w.alloc (.cells x.val 28)).alloc (.cells #[.int .i64 H,.int .i64 W,.int .i64 C,.slice A n c] 32))
 have hF:=freshNew T (((w.alloc (.cells x.val 28)).alloc (.cells #[.int .i64 H,.int .i64 W,.int .i64 C,.slice A n c] 32)).alloc (.cells #[.int .i64 H2,.int .i64 W2,.int .i64 C2,.slice B m d] 32))
 simp only [World.size_alloc] at hT hU hF
 exact⟨_,rfl,Lib.hid ((NdAt.new x _ w).below (B:=w.heap.size+1) (by omega) ((((Below.refl _ _).alloc (by simp) _).alloc (by first | (simp;done) | (simp;omega)) _).alloc (by first | (simp;done) | (simp;omega)) _)),Lib.hid (((((Below.refl _ _).alloc (Nat.le_refl _) _).alloc (by first | (simp;done) | (simp;omega)) _).alloc (by first | (simp;done) | (simp;omega)) _).alloc (by first | (simp;done) | (simp;omega)) _),by simp,Lib.hid (hT.below (Nat.lt_succ_self _) (((Below.refl _ _).alloc (by simp) _).alloc (by first | (simp;done) | (simp;omega)) _)),Lib.hid (hU.below (Nat.lt_succ_self _) ((Below.refl _ _).alloc (by simp) _)),Lib.hid hF⟩
end Go.Proofs.YtkpngknbiecdiaaGreatDoor.CRun
end
section
namespace Go.Proofs.YtkpngknbiecdiaaGreatDoor.CLower
open Go Go.ChangeShapes Go.WideShapes Go.ChangeAt Go.RowKit
open Plain CSat CShape CTensor CConv
set_option linter.unusedVariables false
theorem psum_eq (G:Nat→Int):∀ n,CGemm.psum G n=psum G n
 | 0=>rfl
 | n+1=>by show CGemm.psum G n+G n=psum G n+G n;rw [psum_eq G n]
theorem psum_add (G:Nat→Int) (m:Nat):∀ k,psum G (m+k)=psum G m+psum (fun j=>G (m+j)) k
 | 0=>by simp [psum]
 | k+1=>by
   show psum G (m+k)+G (m+k)=psum G m+(psum (fun j=>G (m+j)) k+G (m+k))
   rw [psum_add G m k];omega
theorem psum_flat (G:Nat→Int) (b:Nat):∀ a,psum G (a * b)=psum (fun i=>psum (fun j=>G (i * b+j)) b) a
 | 0=>by simp [psum]
 | a+1=>by
   rw [Nat.add_mul,Nat.one_mul,psum_add,psum_flat G b a];rfl
theorem parts_of {wd d kk k2 r i j c:Nat} (hk2:kk * kk=k2) (hwd:k2 * d=wd) (hi:i < kk) (hj:j < kk) (hc:c < d) :
  (i * kk+j) * d+c < wd∧(r * wd+((i * kk+j) * d+c)) / wd=r∧(r * wd+((i * kk+j) * d+c)) % wd=(i * kk+j) * d+c∧((i * kk+j) * d+c) / d=i * kk+j∧((i * kk+j) * d+c) % d=c∧(i * kk+j) / kk=i∧(i * kk+j) % kk=j:=by
 have h1:i * kk+j < kk * kk:=by
  have:=Nat.mul_le_mul_right kk (show i+1≤kk by omega)
  rw [Nat.add_mul,Nat.one_mul] at this;omega
 have h2:(i * kk+j) * d+c < wd:=by
  have:=Nat.mul_le_mul_right d (show i * kk+j+1≤k2 by omega)
  rw [Nat.add_mul,Nat.one_mul,hwd] at this;omega
 have dm:∀ (x m y:Nat),y < m→(x * m+y) / m=x∧(x * m+y) % m=y:=fun x m y hy=>by
  constructor
  ·rw [Nat.mul_comm,Nat.mul_add_div (by omega),Nat.div_eq_of_lt hy];rfl
  ·rw [Nat.mul_comm,Nat.mul_add_mod,Nat.mod_eq_of_lt hy]
 exact⟨h2,(dm r wd _ h2).1,(dm r wd _ h2).2,(dm _ d c hc).1,(dm _ d c hc).2,(dm i kk j hj).1,(dm i kk j hj).2⟩
theorem low_term (zs ws:List Int) (H W C S P Z:Int) (b kk d k2 wd r o i j c:Nat) (hk2:kk * kk=k2) (hwd:k2 * d=wd) (hi:i < kk) (hj:j < kk) (hc:c < d) (hW:0≤W) (hC:C=(d:Int)) :
  CPatch.numF zs H W C S P Z b kk d wd (r * wd+((i * kk+j) * d+c)) * ws.getD (o * wd+((i * kk+j) * d+c)) 0 =
   if 0≤((r / b:Nat):Int) * S - P+(i:Int)∧((r / b:Nat):Int) * S - P+(i:Int) < H∧0≤((r % b:Nat):Int) * S - P+(j:Int)∧((r % b:Nat):Int) * S - P+(j:Int) < W then
    termF zs ws (((((r / b:Nat):Int) * S - P+(i:Int)) * W+(((r % b:Nat):Int) * S - P+(j:Int))) * C).toNat (((o * kk+i) * kk+j) * d) Z c else 0:=by
 obtain⟨h0,h1,h2,h3,h4,h5,h6⟩:=parts_of (r:=r) hk2 hwd hi hj hc
 unfold CPatch.numF
 rw [h1,h2,h3,h4,h5,h6]
 split
 ·rename_i hin
  unfold termF
  have e1:((((((r / b:Nat):Int) * S - P+(i:Int)) * W+(((r % b:Nat):Int) * S - P+(j:Int))) * C)+((c:Nat):Int)).toNat=(((((r / b:Nat):Int) * S - P+(i:Int)) * W+(((r % b:Nat):Int) * S - P+(j:Int))) * C).toNat+c:=by
   have:0≤(((((r / b:Nat):Int) * S - P+(i:Int)) * W+(((r % b:Nat):Int) * S - P+(j:Int))) * C) :=
    Int.mul_nonneg (Int.add_nonneg (Int.mul_nonneg hin.1 hW) hin.2.2.1) (by omega)
   omega
  have e2:o * wd+((i * kk+j) * d+c)=((o * kk+i) * kk+j) * d+c:=by
   have h7:(o * kk+i) * kk+j=o * (kk * kk)+(i * kk+j):=by rw [Nat.add_mul,Nat.mul_assoc];omega
   rw [h7,Nat.add_mul (o * (kk * kk)),Nat.mul_assoc o,hk2,hwd];omega
  rw [e1,e2,Int.mul_comm]
 ·rw [Int.zero_mul]
theorem low_sum (zs ws:List Int) (H W C S P Z:Int) (b kk d k2 wd r o:Nat) (hk2:kk * kk=k2) (hwd:k2 * d=wd) (hW:0≤W) (hC:C=(d:Int)) :
  psum (fun k=>CPatch.numF zs H W C S P Z b kk d wd (r * wd+k) * ws.getD (o * wd+k) 0) wd=winF zs ws H W C (((r / b:Nat):Int) * S - P) (((r % b:Nat):Int) * S - P) d kk o Z:=by
 rw [show psum (fun k=>CPatch.numF zs H W C S P Z b kk d wd (r * wd+k) * ws.getD (o * wd+k) 0) wd=psum (fun k=>CPatch.numF zs H W C S P Z b kk d wd (r * wd+k) * ws.getD (o * wd+k) 0) ((kk * kk) * d) by rw [hk2,hwd],psum_flat,psum_flat]
 unfold winF
 refine psum_congr fun i hi=>?_
 unfold rowF
 refine psum_congr fun j hj=>?_
 unfold placeF
 split
 ·rename_i hin
  refine psum_congr fun c hc=>?_
  rw [low_term zs ws H W C S P Z b kk d k2 wd r o i j c hk2 hwd hi hj hc hW hC,if_pos hin]
 ·rename_i hin
  refine psum_zero fun c hc=>?_
  rw [low_term zs ws H W C S P Z b kk d k2 wd r o i j c hk2 hwd hi hj hc hW hC,if_neg hin]
theorem low_num (zs ws bs:List Int) (H W C S P Z:Int) (b kk d k2 wd oo N1 NN:Nat) (hk2:kk * kk=k2) (hwd:k2 * d=wd) (hW:0≤W) (hC:C=(d:Int)) (hNN:N1 * wd=NN) (F:Nat→Int) (hF:F=CPatch.numF zs H W C S P Z b kk d wd)
  (i:Nat) (hi:i < N1 * oo):IntKind.i32.wrap (CGemm.mulF (CPatch.listF F NN) ws wd oo i+bs.getD (i % oo) 0)=gridF b oo (sumF zs ws bs H W C S P d kk Z) i:=by
 have hoo:0 < oo:=by
  rcases Nat.eq_zero_or_pos oo with h | h
  ·subst h;omega
  ·exact h
 have hr:i / oo < N1:=Nat.div_lt_of_lt_mul (by rw [Nat.mul_comm];exact hi)
 unfold CGemm.mulF gridF sumF
 rw [psum_eq,wrap32_add, ← low_sum zs ws H W C S P Z b kk d k2 wd (i / oo) (i % oo) hk2 hwd hW hC]
 congr 1
 rw [Int.add_comm]
 congr 1
 refine psum_congr fun k hk=>?_
 congr 1
 rw [List.getD_eq_getElem?_getD,CPatch.listF_at F (by
  have:=Nat.mul_le_mul_right wd (show i / oo+1≤N1 by omega)
  rw [Nat.add_mul,Nat.one_mul,hNN] at this;omega),hF]
 rfl
def mixF (T M:Nat→Int) (t i:Nat):Int:=if i < t then T i else M i
theorem mix_set (T M:Nat→Int) {N t:Nat} (ht:t < N):(CGemm.rowL (mixF T M t) N).set t (T t)=CGemm.rowL (mixF T M (t+1)) N:=by
 refine CGemm.eq_rowL (by simp [CGemm.rowL_len]) fun i hi=>?_
 rw [List.getElem?_set]
 by_cases e:t=i
 ·subst e
  rw [if_pos rfl,if_pos (by rw [CGemm.rowL_len];exact hi)]
  unfold mixF;rw [if_pos (by omega)]
 ·rw [if_neg e,CGemm.rowL_at _ hi]
  unfold mixF
  by_cases h:i < t
  ·rw [if_pos h,if_pos (by omega)]
  ·rw [if_neg h,if_neg (by omega)]
theorem mix_at (T M:Nat→Int) {N t:Nat} (ht:t < N):(CGemm.rowL (mixF T M t) N)[t]?=some (M t):=by
 rw [CGemm.rowL_at _ ht];unfold mixF;rw [if_neg (by omega)]
end Go.Proofs.YtkpngknbiecdiaaGreatDoor.CLower
end
section
namespace Go.Proofs.YtkpngknbiecdiaaGreatDoor.CLower
set_option maxRecDepth 100000
open Go Go.ChangeShapes Go.WideShapes Go.ChangeAt Go.RowKit Go.Shelf Round
open Plain CSat CShape CTensor CConv
set_option linter.unusedVariables false
attribute [local go_sem] Oper.semAt_some
theorem still_slice {F:Fence} {P:Program} (d:Option Tmp) (T:TypeId) (x:Operand) (a b c:Option Operand) (t:TypeId) (p:String) (e:Array Edge) (g:Option (Nat × Bool)):Still F P { dst:=d,op:=.slice T x a b c,type:=t,pos:=p,after:=e,guard:=g } :=
 ⟨(fun c h=>by cases h),fun ρ w=>⟨fun f h=>by simp [Oper.about] at h,calm_value _ w⟩⟩
theorem still_builtin_len {F:Fence} {P:Program} (d:Option Tmp) (xs:Array Operand) (ts:Array TypeId) (t:TypeId) (p:String) (e:Array Edge) (g:Option (Nat × Bool)):Still F P { dst:=d,op:=.call { callee:=.builtin .len,args:=xs,argTypes:=ts },type:=t,pos:=p,after:=e,guard:=g } :=
 ⟨(fun c h => by cases h), fun ρ w => ⟨fun f h => by simp [Oper.about, resolve, go_sem] at h, by
   simp only [execOp,resolve,invoke,builtin,Sem.run_bind,Sem.run_pure,Result.andThen_ok]
   exact calm_then _⟩⟩
def Keep2 (Bs Bn:Nat) (A B:World):Prop:=B.cell? ⟨Bs,0,none⟩=A.cell? ⟨Bs,0,none⟩∧B.cell? ⟨Bn,0,none⟩=A.cell? ⟨Bn,0,none⟩
theorem Keep2.trans {Bs Bn:Nat} {A B C:World} (h:Keep2 Bs Bn A B) (k:Keep2 Bs Bn B C):Keep2 Bs Bn A C:=⟨k.1.trans h.1,k.2.trans h.2⟩
def piece (g d:Nat) (cap:Nat) (x:Nat):Array Value:=#[.slice (some ⟨g,x * d,none⟩) d d]
def first (k:Nat):List Nat:=List.range k
theorem first_succ (k:Nat):first (k+1)=first k ++ [k]:=by simp [first,List.range_succ]
theorem first_len (k:Nat):(first k).length=k:=by simp [first]
set_option maxRecDepth 100000 in
set_option maxHeartbeats 4000000 in
theorem chunk_in (F:Fence) (n:Nat) (h8:F.fn 132) (hro:F.round=none) (hn:1≤n) (l Bs Bn g d r L cap:Nat) (hd:1≤d) (hdm:d≤1024) (hL:r * d=L) (hLm:L≤1000000) (hcap:L≤cap) (hcm:cap≤maxLen) (J Jx:List Nat→World→Prop)
  (hJd:∀ pre W,J pre W→J pre W.drew)
  (hY:∀ pre W,J pre W→pre.length < r→YieldAt F (n - 1) Tryz.prog l (piece g d cap pre.length) W fun e W' =>
    (e=.returned (.bool true)∧J (pre ++ [pre.length]) W'∧Keep2 Bs Bn W W')∨(e=.returned (.bool false)∧Jx (pre ++ [pre.length]) W'))
  (W:World) (hBs:W.cell? ⟨Bs,0,none⟩=some (.slice (some ⟨g,0,none⟩) L cap)) (hBn:W.cell? ⟨Bn,0,none⟩=some (.int .i64 d)) (h0:J [] W) :
  CallsIn F n Tryz.prog 132 #[.func (.yield l) #[] #[],.pointer (some ⟨Bs,0,none⟩),.pointer (some ⟨Bn,0,none⟩)] W fun e W'=>(∃ v,e=.returned v) ∧
   ((∃ ys,ys=first r∧J ys W')∨(∃ pre,(∃ k,k≤r∧pre=first k)∧Jx pre W')):=by
 refine callsIn_of_wp Tryz.func132 rfl h8 ?_ hro
 simp only [Tryz.ntmps132,List.size_toArray,List.length_cons,List.length_nil,Nat.reduceAdd,Nat.reduceSub,Array.replicate_succ,Array.replicate_zero,List.push_toArray,List.append_toArray,List.nil_append,List.cons_append]
 have HL:=Lib.hid hL
 clear hL
 gi_wp2
 gi_loopw [4] (fun i wr=>∃ k:Nat,k≤r∧i=.int .i64 ((k * d:Nat):Int)∧J (first k) wr∧Hid (Keep2 Bs Bn W wr))
  (fun i _=>L - (intOf i).toNat)
 case atStart=>exact⟨0,Nat.zero_le _,by simp,h0,Lib.hid ⟨rfl,rfl⟩⟩
 case round =>
  obtain⟨k,hk,rfl,hJs,hK⟩:=hrel
  have cs:=hK.out.1.trans hBs
  have cn:=hK.out.2.trans hBn
  obtain⟨q,hq⟩:∃ q,k * d=q:=⟨_,rfl⟩
  have hqL:q≤L:=by rw [← hq, ← HL.out];exact Nat.mul_le_mul_right _ hk
  rw [hq]
  by_cases hlt:k < r
  ·have hq1:q+d≤L:=by
    have:=Nat.mul_le_mul_right d (show k+1≤r by omega)
    rw [Nat.add_mul,Nat.one_mul,hq,HL.out] at this;exact this
   have hq2:(k+1) * d=q+d:=by rw [Nat.add_mul,Nat.one_mul,hq]
   have hqI:(q:Int) < (L:Int):=by omega
   have HQ:=Lib.hid hq
   have HQ2:=Lib.hid hq2
   have e1:IntKind.i64.wrap ((q:Int)+(d:Int))=((q+d:Nat):Int):=by rw [IntWalk.i64_in _ (by omega)];omega
   have hYk:=hY _ wr.drew (hJd _ _ hJs) (by rw [first_len];exact hlt)
   rw [first_len] at hYk
   have HYK:=Lib.hid hYk
   clear hq hq2 hYk
   have hq0:(0:Int)≤(q:Int):=by omega
   have hqL2:(q:Int)≤(L:Int):=by omega
   have hqc:(q:Int)≤(cap:Int):=by omega
   have m1:¬ ((L:Int) - (q:Int)) < (d:Int):=by omega
   have m2:¬ (L - q) < d:=by omega
   have m3:¬ ((L - q:Nat):Int) < (d:Int):=by omega
   have m4:min (d:Int) ((L:Int) - (q:Int))=(d:Int):=by omega
   have m5:min d (L - q)=d:=by omega
   have m6:min (d:Int) ((L - q:Nat):Int)=(d:Int):=by omega
   gi_wp2
   refine region_round (by kernel_rfl) (still_of_list (by simp only [List.forall_mem_cons];exact⟨still_load ..,still_load ..,still_move ..,still_slice ..,still_builtin_len ..,still_builtin_min ..,still_assign ..,fun _ h=>by cases h⟩)) ?_
   have cs2:wr.drew.cell? ⟨Bs,0,none⟩=some (.slice (some ⟨g,0,none⟩) L cap):=cs
   have cn2:wr.drew.cell? ⟨Bn,0,none⟩=some (.int .i64 d):=cn
   have HK2:Hid (Keep2 Bs Bn W wr.drew):=hK
   clear cs cn hJs hK
   generalize wr.drew=Wd at cs2 cn2 HK2 HYK ⊢
   refine Tk.z 2 rfl ?_
   try simp only [Tk.put]
   refine wpAny_ready (rs:=[0,1]) (by kernel_rfl) (by simp) ?_
   refine Tk.d rfl (fun K hK=>?_) ?_
   ·go_simp
    refine hK _ _ ?_
    clear hK K
    try simp only [Tk.put]
    refine Tk.q 1 rfl (fun K hK=>?_)
    go_simp
    refine hK _ _ ?_
    clear hK K
    try simp only [Tk.put]
    refine Tk.z 3 rfl ?_
    try simp only [Tk.put]
    refine Tk.z 4 rfl ?_
    try simp only [Tk.put]
    refine Tk.z 5 rfl ?_
    try simp only [Tk.put]
    refine Tk.z 6 rfl ?_
    try simp only [Tk.put]
    refine wpAny_done (by kernel_rfl) ?_ _
    simp only [Norm]
    obtain⟨fn,tmps,assign,body,hy,hR⟩:=HYK.out
    unfold piece at hy
    rw [HQ.out] at hy
    gi_wp2
    refine hR.mono ?_
    rintro e W3 (⟨rfl,hJ3,hk3⟩ | ⟨rfl,hJx3⟩)
    ·have hK3:=Lib.hid (HK2.out.trans hk3)
     have cn3:=hk3.2.trans cn2
     clear hk3
     gi_wp2
     go_roundw
     case rel=>exact⟨k+1,by omega,by rw [HQ2.out];go_num,by rw [first_succ];exact hJ3,hK3⟩
     case measure=>simp [intOf];omega
    ·gi_wp2
     refine bodyPost_ret (results_none rfl _ _ _) rfl ?_
     exact⟨⟨_,rfl⟩,.inr ⟨_,⟨k+1,by omega,(first_succ _).symm⟩,hJx3⟩⟩
   refine Tk.d rfl (fun K hK=>?_) ?_
   ·go_simp
    refine hK _ _ ?_
    clear hK K
    try simp only [Tk.put]
    refine Tk.z 3 rfl ?_
    try simp only [Tk.put]
    refine Tk.z 4 rfl ?_
    try simp only [Tk.put]
    refine Tk.q 0 rfl (fun K hK=>?_)
    go_simp
    refine hK _ _ ?_
    clear hK K
    try simp only [Tk.put]
    refine Tk.z 5 rfl ?_
    try simp only [Tk.put]
    refine Tk.z 6 rfl ?_
    try simp only [Tk.put]
    refine wpAny_done (by kernel_rfl) ?_ _
    simp only [Norm]
    obtain⟨fn,tmps,assign,body,hy,hR⟩:=HYK.out
    unfold piece at hy
    rw [HQ.out] at hy
    gi_wp2
    refine hR.mono ?_
    rintro e W3 (⟨rfl,hJ3,hk3⟩ | ⟨rfl,hJx3⟩)
    ·have hK3:=Lib.hid (HK2.out.trans hk3)
     have cn3:=hk3.2.trans cn2
     clear hk3
     gi_wp2
     go_roundw
     case rel=>exact⟨k+1,by omega,by rw [HQ2.out];go_num,by rw [first_succ];exact hJ3,hK3⟩
     case measure=>simp [intOf];omega
    ·gi_wp2
     refine bodyPost_ret (results_none rfl _ _ _) rfl ?_
     exact⟨⟨_,rfl⟩,.inr ⟨_,⟨k+1,by omega,(first_succ _).symm⟩,hJx3⟩⟩
   exact fun j hj=>by cases hj
  ·obtain rfl:k=r:=by omega
   rw [HL.out] at hq
   subst hq
   gi_wp2
   go_end0
   exact⟨⟨_,rfl⟩,.inl ⟨_,rfl,hJs⟩⟩
end Go.Proofs.YtkpngknbiecdiaaGreatDoor.CLower
end
section
namespace Go.Proofs.YtkpngknbiecdiaaGreatDoor.CTensor
open Go Go.ChangeShapes Go.WideShapes Go.ChangeAt Go.RowKit
open Plain CSat CShape
set_option linter.unusedVariables false
theorem refSame_to (H W C:Int) (A B:Option Addr) (xs ys:List Int) (n c d:Nat) (hx:xs.length=n) (hy:ys.length=n) (hl:n≤1000000) (b:Bool) (hb:decide (xs=ys)=b) (w:World) {B1 B2:Nat} (h1:B1≤w.heap.size) (h2:B2≤w.heap.size) (ha:Kit.Rd w B1 A (xs.map (.int .i8))) (hbb:Kit.Rd w B2 B (ys.map (.int .i8))) :
  Calls Tryz.prog 12 #[.agg #[.int .i64 H,.int .i64 W,.int .i64 C,.slice A n c],.agg #[.int .i64 H,.int .i64 W,.int .i64 C,.slice B n d]] w fun e w'=>e=.returned (.bool b)∧Below w.heap.size w w':=by
 have HA:=Lib.hid ((ha.alloc h1 (.cells #[.int .i64 H,.int .i64 W,.int .i64 C,.slice A n c] 32)).alloc (by simp;omega) (.cells #[.int .i64 H,.int .i64 W,.int .i64 C,.slice B n d] 32))
 have HB:=Lib.hid ((hbb.alloc h2 (.cells #[.int .i64 H,.int .i64 W,.int .i64 C,.slice A n c] 32)).alloc (by simp;omega) (.cells #[.int .i64 H,.int .i64 W,.int .i64 C,.slice B n d] 32))
 have HX:=Lib.hid hx
 have HY:=Lib.hid hy
 have HBB:=Lib.hid hb
 clear ha hbb hx hy hb
 have HE:=eqShape H W C H W C
 have hg:=Tryz.eqGuardType30
 go_enter Tryz.func12,Tryz.ntmps12
 go_wp2_with fail
 have HBW:Hid (Below w.heap.size w ((w.alloc (.cells #[.int .i64 H,.int .i64 W,.int .i64 C,.slice A n c] 32)).alloc (.cells #[.int .i64 H,.int .i64 W,.int .i64 C,.slice B n d] 32))):=Lib.hid (((Below.refl _ _).alloc (Nat.le_refl _) _).alloc (by simp) _)
 have hca:((w.alloc (.cells #[.int .i64 H,.int .i64 W,.int .i64 C,.slice A n c] 32)).alloc (.cells #[.int .i64 H,.int .i64 W,.int .i64 C,.slice B n d] 32)).cell? ⟨w.heap.size,3,none⟩=some (.slice A n c):=by
  rw [World.cell?_alloc_lt _ _ _ (by simp)];exact Kit.new_cell _ _ _ _
 have hcb:((w.alloc (.cells #[.int .i64 H,.int .i64 W,.int .i64 C,.slice A n c] 32)).alloc (.cells #[.int .i64 H,.int .i64 W,.int .i64 C,.slice B n d] 32)).cell? ⟨w.heap.size+1,3,none⟩=some (.slice B n d):=by
  have hcb:=Kit.new_cell (w.alloc (.cells #[.int .i64 H,.int .i64 W,.int .i64 C,.slice A n c] 32)) #[.int .i64 H,.int .i64 W,.int .i64 C,.slice B n d] 32 3
  rw [World.size_alloc] at hcb;exact hcb
 generalize ((w.alloc (.cells #[.int .i64 H,.int .i64 W,.int .i64 C,.slice A n c] 32)).alloc (.cells #[.int .i64 H,.int .i64 W,.int .i64 C,.slice B n d] 32))=W1 at HA HB HBW hca hcb ⊢
 go_loopw [5] (fun i wr=>∃ k nq:Nat,k≤n∧i=.int .i64 k∧Hid (xs.take k=ys.take k)∧Hid (wr=W1.drewN nq)) (fun i _=>n - (intOf i).toNat)
 case atStart=>exact⟨0,0,Nat.zero_le _,rfl,Lib.hid (by simp),Lib.hid rfl⟩
 case round =>
  obtain⟨k,nq,hk,rfl,ht,hw⟩:=hrel
  obtain rfl:=hw.out
  clear hw
  by_cases hlt:k < n
  ·have hx1:k < xs.length:=by have:=HX.out;omega
   have hy1:k < ys.length:=by have:=HY.out;omega
   obtain⟨b1,off1,rfl,_,hcx⟩:=HA.out.ints hx1
   obtain⟨b2,off2,rfl,_,hcy⟩:=HB.out.ints hy1
   have hd:=differ hx1 hy1
   have htk:xs[k]=ys[k]→xs.take (k+1)=ys.take (k+1):=fun e=>by
    rw [List.take_succ_eq_append_getElem hx1,List.take_succ_eq_append_getElem hy1,ht.out,e]
   have HD:=Lib.hid hd
   have HT:=Lib.hid htk
   clear hd htk
   by_cases he:xs[k]=ys[k]
   ·have HTK:=Lib.hid (HT.out he)
    rw [← he] at hcy
    clear HD HT he
    generalize xs[k]=x at hcx hcy
    have h0:(0:Int)≤(k:Int):=by omega
    have h1:(k:Int) < (n:Int):=by omega
    go_wp2_with fail
    go_quiet (fail)
    go_wp2
    go_roundw
    case rel=>exact⟨k+1,_,by omega,by go_num,HTK,Lib.hid rfl⟩
    case measure=>simp [intOf];omega
   ·have hF:=HD.out he
    have hbf:b=false:=by rw [← HBB.out,hF]
    subst hbf
    clear HD HT hF
    generalize xs[k]=x at hcx he
    generalize ys[k]=y at hcy he
    have hne:(x != y)=true:=by simpa using he
    have h0:(0:Int)≤(k:Int):=by omega
    have h1:(k:Int) < (n:Int):=by omega
    go_wp2_with fail
    go_quiet (fail)
    go_wp2
    go_ret
    exact⟨rfl,Kit.below_drewN (Kit.below_drewN HBW.out _) _⟩
  ·have hke:k=n:=by omega
   have hbt:b=true:=by
    rw [← HBB.out]
    have:=ht.out
    rw [hke,List.take_of_length_le (by have:=HX.out;omega),List.take_of_length_le (by have:=HY.out;omega)] at this
    simp [this]
   subst hbt
   go_wp2_with fail
   go_ret
   exact⟨rfl,Kit.below_drewN HBW.out _⟩
end Go.Proofs.YtkpngknbiecdiaaGreatDoor.CTensor
end
section
namespace Go.Proofs.YtkpngknbiecdiaaGreatDoor.CTensor
set_option maxRecDepth 100000
open Go Go.ChangeShapes Go.WideShapes Go.ChangeAt Go.RowKit
open Plain CSat CShape
set_option linter.unusedVariables false
theorem mul_one_n (n:Nat) (hn:n < 18446744073709551616) (w:World) :
  Calls Tryz.prog 152 #[.int .u64 1,.int .u64 (n:Int)] w fun e w'=>e=.returned (.tuple #[.int .u64 0,.int .u64 (n:Int)])∧w=w':=by
 have h:=Tryz.bits_Mul 1 n (by omega) hn w
 rw [Nat.one_mul,Nat.div_eq_of_lt hn,Nat.mod_eq_of_lt hn] at h
 exact h.mono fun e w' ⟨he,hw⟩=>⟨he,hw.symm⟩
def partly (x:Int) (n q:Nat):List Value:=List.replicate q (.int .i8 x) ++ List.replicate (n - q) (.int .i8 0)
theorem partly_len (x:Int) {n q:Nat} (h:q≤n):(partly x n q).length=n:=by simp [partly];omega
theorem partly_splice (x:Int) {n q m:Nat} (h:q+m≤n):splice (partly x n q) q (List.replicate m (.int .i8 x))=partly x n (q+m):=by
 unfold splice partly
 rw [List.take_left' (by simp),List.length_replicate,List.drop_append,List.length_replicate,List.drop_eq_nil_of_le (by simp),List.nil_append,List.drop_replicate, ← List.append_assoc,List.replicate_append_replicate]
 congr 2;omega
theorem partly_at (x:Int) {n q j:Nat} (h:j < q):(partly x n q)[j]?=some (.int .i8 x):=by
 unfold partly
 rw [List.getElem?_append_left (by simpa using h),List.getElem?_replicate,if_pos h]
theorem rd_one {w:World} {B:Nat} {A:Option Addr} {x:Value} (h:Kit.Rd w B A [x]):∃ ad,A=some ad∧∀ j v,[x][j]?=some v→w.cell? (ad.add j)=some v:=by
 obtain⟨ad,rfl,_,_⟩:=h 0 x rfl
 refine⟨ad,rfl,fun j v hv=>?_⟩
 obtain⟨ad2,e,_,hc⟩:=h j v hv
 cases e;exact hc
theorem made_partly (w:World) (x:Int) (n:Nat):(w.alloc (.cells (madeCells #[Value.int .i8 0] n) 22)).heap[w.heap.size]?=some (.cells (partly x n 0).toArray 22 (0,0)):=by
 rw [heap_alloc_new]
 refine congrArg (fun a=>some (Obj.cells a 22 (0,0))) ?_
 apply Array.ext'
 rw [toList_madeCells_one]
 simp [partly]
theorem part_src {w:World} {g:Nat} {x:Int} {n q m:Nat} {T:TypeId} (h:w.heap[g]?=some (.cells (partly x n q).toArray T (0,0))) (hm:m≤q) :
  ∀ j v,(List.replicate m (Value.int .i8 x))[j]?=some v→w.cell? ((⟨g,0,none⟩:Addr).add j)=some v:=by
 intro j v hv
 have e:(⟨g,0,none⟩:Addr).add j=⟨g,j,none⟩:=by
  unfold Addr.add;split
  ·rename_i h;subst h;rfl
  ·simp
 rw [List.getElem?_replicate] at hv
 split at hv
 ·rename_i hj
  cases hv
  rw [e]
  unfold World.cell?
  rw [h]
  have:=partly_at x (n:=n) (q:=q) (j:=j) (by omega)
  simpa using this
 ·cases hv
theorem repeat_to (A:Option Addr) (x:Int) (c n:Nat) (h1:1≤n) (hl:n≤1000000) {B:Nat} (w:World) (hB:B≤w.heap.size) (hr:Kit.Rd w B A (I8s [x])) :
  Calls Tryz.prog 141 #[.slice A 1 c,.int .i64 (n:Int)] w (Owned w n (I8s (List.replicate n x))):=by
 have HR:=Lib.hid hr
 have hnI:(n:Int)≤1000000:=by omega
 have hnJ:(1:Int)≤(n:Int):=by omega
 have hbig:decide (9223372036854775807 < (n:Int))=false:=by simp;omega
 clear hr
 have hmk:=run_make_row' (P:=Tryz.prog) 23 22 (.int .i8 0) 1 Tryz.underlying23 info_i8 rfl .i64 .i64 n (by omega) (by omega)
 have hsz:(Tryz.prog.info? 22).map (·.size)=some 1:=by kernel_rfl
 have HSZ:=Lib.hid hsz
 clear hsz
 go_enter Tryz.func141,Tryz.ntmps141
 go_wp2_with (first
  | (go_at_call 152;(refine (mul_one_n n (by omega) _).mono ?_);rintro e w' ⟨rfl,rfl⟩)
  | (refine wpList_copy_splice rfl (.tmp 31) (.tmp 32) _ _ rfl 22 Tryz.underlying23 HSZ.out (some ⟨w.heap.size,0,none⟩) A n n 1 c rfl rfl w.heap.size 0 (partly x n 0) 22 (made_partly w x n) [.int .i8 x] (by show 1=min 1 n;omega) (fun _=>⟨rfl,rd_one ((HR.out.alloc hB _))⟩) (by rw [partly_len x (Nat.zero_le _)];simpa using h1) (Kit.ints_one .i8 [x]) w.heap.size w ((Below.refl _ _).alloc (Nat.le_refl _) _) (Nat.le_refl _) ?_
     intro w2 HG hb2
     have HB:=Lib.hid hb2
     have hsp:=partly_splice x (n:=n) (q:=0) (m:=1) (by omega)
     have HG1:Hid (w2.heap[w.heap.size]?=some (.cells (partly x n 1).toArray 22 (0,0))):=by
      have:=HG.out
      rw [show [Value.int .i8 x]=List.replicate 1 (Value.int .i8 x) from rfl,hsp] at this
      exact Lib.hid this
     clear hb2 HG hsp))
 go_loopw [8] (fun i wr=>∃ q:Nat,1≤q∧q≤n∧i=.int .i64 q∧Hid (wr.heap[w.heap.size]?=some (.cells (partly x n q).toArray 22 (0,0)))∧Hid (Below w.heap.size w wr)) (fun i _=>n - (intOf i).toNat)
 case atStart=>exact⟨1,Nat.le_refl _,h1,rfl,HG1,HB⟩
 case round =>
  obtain⟨q,hq1,hq,rfl,hG,hBw⟩:=hrel
  clear HG1 HB
  by_cases hlt:q < n
  ·have hqI:(q:Int) < (n:Int):=by omega
   have hqJ:(1:Int)≤(q:Int):=by omega
   have hne:¬ n=q:=by omega
   obtain⟨m,hm⟩:∃ m,min q (n - q)=m:=⟨_,rfl⟩
   have hm1:1≤m:=by omega
   have hmq:m≤q:=by omega
   have hmn:q+m≤n:=by omega
   have HM:=Lib.hid hm
   clear hm
   go_wp2_with fail
   refine wp_region_held_drew (S:=fun w'=>True) (by kernel_rfl) trivial (fun hHeld=>?_)
   refine Tk.x 0 rfl ?_
   try simp only [Tk.put]
   refine Tk.x 1 rfl ?_
   try simp only [Tk.put]
   refine Tk.x 2 rfl ?_
   try simp only [Tk.put]
   refine Tk.x 3 rfl ?_
   try simp only [Tk.put]
   refine Tk.x 4 rfl ?_
   try simp only [Tk.put]
   refine Tk.x 5 rfl ?_
   try simp only [Tk.put]
   refine Tk.x 6 rfl ?_
   try simp only [Tk.put]
   refine Tk.s 7 rfl (fun K hK=>?_)
   refine step_copy_splice rfl (.tmp 41) (.tmp 44) _ _ rfl 22 Tryz.underlying23 HSZ.out (some ⟨w.heap.size,q,none⟩) (some ⟨w.heap.size,0,none⟩) (n - q) (n - q) q n rfl rfl w.heap.size q (partly x n q) 22 hG.out (List.replicate m (.int .i8 x)) (by simpa [Nat.min_def] using HM.out.symm) (fun _=>⟨rfl,⟨_,rfl,part_src hG.out hmq⟩⟩) (by rw [partly_len x hq,List.length_replicate];exact hmn) (by intro v hv;rw [List.eq_of_mem_replicate hv];rfl) w.heap.size w hBw.out.drew (Nat.le_refl _) ?_
   intro w3 HG3 hb3
   have HB3:=Lib.hid hb3
   have HG4:Hid (w3.heap[w.heap.size]?=some (.cells (partly x n (q+m)).toArray 22 (0,0))):=by
    have:=HG3.out
    rw [partly_splice x hmn] at this
    exact Lib.hid this
   have hsum:goInt (List.replicate m (Value.int .i8 x)).length=.int .i64 (m:Int):=by simp [goInt]
   rw [hsum]
   clear hb3 HG3 hsum
   have hwr:IntKind.i64.wrap ((q:Int)+(m:Int))=(q:Int)+(m:Int):=IntWalk.i64_in _ (by omega)
   dsimp only
   refine hK.out _ _ ?_ (fun hHeld=>?_)
   ·exact trivial
   clear hK K
   try simp only [Tk.put]
   refine Tk.x 8 rfl ?_
   try simp only [Tk.put]
   refine Tk.x 9 rfl ?_
   try simp only [Tk.put]
   refine wpAnyH_done (by kernel_rfl) ?_ _
   clear hwr
   go_wp2_with fail
   go_roundw
   case rel=>exact⟨q+m,by omega,by omega,by go_num,HG4,HB3⟩
   case measure=>simp [intOf];omega
  ·obtain rfl:q=n:=by omega
   go_wp2_with fail
   go_ret
   refine⟨_,rfl,⟨by simp [I8s],.inr ⟨w.heap.size,q,(partly x q q).toArray,rfl,Nat.le_refl _,hG.out,Nat.le_refl _,by unfold maxLen;omega,by simp [partly],by simp [partly,I8s]⟩⟩,hBw.out⟩
end Go.Proofs.YtkpngknbiecdiaaGreatDoor.CTensor
end
