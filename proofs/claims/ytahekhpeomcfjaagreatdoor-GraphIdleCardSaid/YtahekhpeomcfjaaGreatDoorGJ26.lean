/- -/
import Derived.RangeFuncNested
import Derived.OwnWalkIn
import Derived.TacticsInMore
import Derived.LoopNIn
import Derived.LoopIn
import Derived.Test.YtahekhpeomcfjaaGreatDoorGJ17
import Derived.Test.YtahekhpeomcfjaaGreatDoorGJ25
open Go.Lib (hid)
open Nat (le_refl lt_of_succ_lt lt_succ_self)
set_option linter.unusedVariables false
set_option linter.unusedSimpArgs false
set_option maxRecDepth 100000
set_option maxHeartbeats 16000000
namespace Go.Proofs.YtahekhpeomcfjaaGreatDoor
namespace CConv
end CConv
namespace CSat
end CSat
namespace CShape
end CShape
namespace CTensor
end CTensor
open Go Go.ChangeShapes Go.WideShapes Go.ChangeAt Go.RowKit
section
namespace CLower
open Plain CSat CShape CTensor CConv
theorem psum_eq (G:Nat→Int):∀ n,CGemm.psum G n=psum G n
 | 0=>rfl
 | n+1=>by show CGemm.psum G n+G n=psum G n+G n;rw [psum_eq G n]
theorem psum_add (G:Nat→Int) (m:Nat):∀ k,psum G (m+k)=psum G m+psum (fun j=>G (m+j)) k
 | 0=>by simp [psum]
 | k+1=>by
   show psum G (m+k)+G (m+k)=psum G m+(psum (fun j=>G (m+j)) k+G (m+k))
   rw [psum_add G m k];omega
theorem psum_flat (G:Nat→Int) (b:Nat):∀ a,psum G (a * b)=psum (fun i=>psum (fun j=>G (i * b+j)) b) a
 | 0=>by simp [psum]
 | a+1=>by
   rw [Nat.add_mul,Nat.one_mul,psum_add,psum_flat G b a];rfl
theorem parts_of {wd d kk k2 r i j c:Nat} (hk2:kk * kk=k2) (hwd:k2 * d=wd) (hi:i < kk) (hj:j < kk) (hc:c < d) :
  (i * kk+j) * d+c < wd∧(r * wd+((i * kk+j) * d+c)) / wd=r∧(r * wd+((i * kk+j) * d+c)) % wd=(i * kk+j) * d+c∧((i * kk+j) * d+c) / d=i * kk+j∧((i * kk+j) * d+c) % d=c∧(i * kk+j) / kk=i∧(i * kk+j) % kk=j:=by
 have h1:i * kk+j < kk * kk:=by
  have:=Nat.mul_le_mul_right kk (show i+1≤kk by omega)
  rw [Nat.add_mul,Nat.one_mul] at this;omega
 have h2:(i * kk+j) * d+c < wd:=by
  have:=Nat.mul_le_mul_right d (show i * kk+j+1≤k2 by omega)
  rw [Nat.add_mul,Nat.one_mul,hwd] at this;omega
 have dm:∀ (x m y:Nat),y < m→(x * m+y) / m=x∧(x * m+y) % m=y:=fun x m y hy=>by
  constructor
  ·rw [Nat.mul_comm,Nat.mul_add_div (by omega),Nat.div_eq_of_lt hy];rfl
  ·rw [Nat.mul_comm,Nat.mul_add_mod,Nat.mod_eq_of_lt hy]
 exact⟨h2,(dm r wd _ h2).1,(dm r wd _ h2).2,(dm _ d c hc).1,(dm _ d c hc).2,(dm i kk j hj).1,(dm i kk j hj).2⟩
theorem low_term (zs ws:List Int) (H W C S P Z:Int) (b kk d k2 wd r o i j c:Nat) (hk2:kk * kk=k2) (hwd:k2 * d=wd) (hi:i < kk) (hj:j < kk) (hc:c < d) (hW:0≤W) (hC:C=(d:Int)) :
  CPatch.numF zs H W C S P Z b kk d wd (r * wd+((i * kk+j) * d+c)) * ws.getD (o * wd+((i * kk+j) * d+c)) 0 =
   if 0≤((r / b:Nat):Int) * S - P+(i:Int)∧((r / b:Nat):Int) * S - P+(i:Int) < H∧0≤((r % b:Nat):Int) * S - P+(j:Int)∧((r % b:Nat):Int) * S - P+(j:Int) < W then
    termF zs ws (((((r / b:Nat):Int) * S - P+(i:Int)) * W+(((r % b:Nat):Int) * S - P+(j:Int))) * C).toNat (((o * kk+i) * kk+j) * d) Z c else 0:=by
 obtain⟨h0,h1,h2,h3,h4,h5,h6⟩:=parts_of (r:=r) hk2 hwd hi hj hc
 unfold CPatch.numF
 rw [h1,h2,h3,h4,h5,h6]
 split
 ·rename_i hin
  unfold termF
  have e1:((((((r / b:Nat):Int) * S - P+(i:Int)) * W+(((r % b:Nat):Int) * S - P+(j:Int))) * C)+((c:Nat):Int)).toNat=(((((r / b:Nat):Int) * S - P+(i:Int)) * W+(((r % b:Nat):Int) * S - P+(j:Int))) * C).toNat+c:=by
   have:0≤(((((r / b:Nat):Int) * S - P+(i:Int)) * W+(((r % b:Nat):Int) * S - P+(j:Int))) * C) :=
    Int.mul_nonneg (Int.add_nonneg (Int.mul_nonneg hin.1 hW) hin.2.2.1) (by omega)
   omega
  have e2:o * wd+((i * kk+j) * d+c)=((o * kk+i) * kk+j) * d+c:=by
   have h7:(o * kk+i) * kk+j=o * (kk * kk)+(i * kk+j):=by rw [Nat.add_mul,Nat.mul_assoc];omega
   rw [h7,Nat.add_mul (o * (kk * kk)),Nat.mul_assoc o,hk2,hwd];omega
  rw [e1,e2,Int.mul_comm]
 ·rw [Int.zero_mul]
theorem low_sum (zs ws:List Int) (H W C S P Z:Int) (b kk d k2 wd r o:Nat) (hk2:kk * kk=k2) (hwd:k2 * d=wd) (hW:0≤W) (hC:C=(d:Int)) :
  psum (fun k=>CPatch.numF zs H W C S P Z b kk d wd (r * wd+k) * ws.getD (o * wd+k) 0) wd=winF zs ws H W C (((r / b:Nat):Int) * S - P) (((r % b:Nat):Int) * S - P) d kk o Z:=by
 rw [show psum (fun k=>CPatch.numF zs H W C S P Z b kk d wd (r * wd+k) * ws.getD (o * wd+k) 0) wd=psum (fun k=>CPatch.numF zs H W C S P Z b kk d wd (r * wd+k) * ws.getD (o * wd+k) 0) ((kk * kk) * d) by rw [hk2,hwd],psum_flat,psum_flat]
 unfold winF
 refine zb8 fun i hi=>?_
 unfold rowF
 refine zb8 fun j hj=>?_
 unfold placeF
 split
 ·rename_i hin
  refine zb8 fun c hc=>?_
  rw [low_term zs ws H W C S P Z b kk d k2 wd r o i j c hk2 hwd hi hj hc hW hC,if_pos hin]
 ·rename_i hin
  refine psum_zero fun c hc=>?_
  rw [low_term zs ws H W C S P Z b kk d k2 wd r o i j c hk2 hwd hi hj hc hW hC,if_neg hin]
theorem low_num (zs ws bs:List Int) (H W C S P Z:Int) (b kk d k2 wd oo N1 NN:Nat) (hk2:kk * kk=k2) (hwd:k2 * d=wd) (hW:0≤W) (hC:C=(d:Int)) (hNN:N1 * wd=NN) (F:Nat→Int) (hF:F=CPatch.numF zs H W C S P Z b kk d wd)
  (i:Nat) (hi:i < N1 * oo):IntKind.i32.wrap (CGemm.mulF (CPatch.listF F NN) ws wd oo i+bs.getD (i % oo) 0)=gridF b oo (sumF zs ws bs H W C S P d kk Z) i:=by
 have hoo:0 < oo:=by
  rcases Nat.eq_zero_or_pos oo with h | h
  ·subst h;omega
  ·exact h
 have hr:i / oo < N1:=Nat.div_lt_of_lt_mul (by rw [Nat.mul_comm];exact hi)
 unfold CGemm.mulF gridF sumF
 rw [psum_eq,zcq, ← low_sum zs ws H W C S P Z b kk d k2 wd (i / oo) (i % oo) hk2 hwd hW hC]
 congr 1
 rw [Int.add_comm]
 congr 1
 refine zb8 fun k hk=>?_
 congr 1
 rw [List.getD_eq_getElem?_getD,CPatch.zc2 F (by
  have:=Nat.mul_le_mul_right wd (show i / oo+1≤N1 by omega)
  rw [Nat.add_mul,Nat.one_mul,hNN] at this;omega),hF]
 rfl
def mixF (T M:Nat→Int) (t i:Nat):Int:=if i < t then T i else M i
theorem mix_set (T M:Nat→Int) {N t:Nat} (ht:t < N):(CGemm.rowL (mixF T M t) N).set t (T t)=CGemm.rowL (mixF T M (t+1)) N:=by
 refine CGemm.eq_rowL (by simp [CGemm.zbn]) fun i hi=>?_
 rw [List.getElem?_set]
 by_cases e:t=i
 ·subst e
  rw [if_pos rfl,if_pos (by rw [CGemm.zbn];exact hi)]
  unfold mixF;rw [if_pos (by omega)]
 ·rw [if_neg e,CGemm.rowL_at _ hi]
  unfold mixF
  by_cases h:i < t
  ·rw [if_pos h,if_pos (by omega)]
  ·rw [if_neg h,if_neg (by omega)]
theorem mix_at (T M:Nat→Int) {N t:Nat} (ht:t < N):(CGemm.rowL (mixF T M t) N)[t]?=some (M t):=by
 rw [CGemm.rowL_at _ ht];unfold mixF;rw [if_neg (by omega)]
end CLower
end
section
namespace CLower
open Go Go.ChangeShapes Go.WideShapes Go.ChangeAt Go.RowKit Go.Shelf Round
open Plain CSat CShape CTensor CConv
attribute [local go_sem] Oper.semAt_some
theorem still_slice {F:Fence} {P:Program} (d:Option Tmp) (T:TypeId) (x:Operand) (a b c:Option Operand) (t:TypeId) (p:String) (e:Array Edge) (g:Option (Nat × Bool)):Still F P { dst:=d,op:=.slice T x a b c,type:=t,pos:=p,after:=e,guard:=g } :=
 ⟨(fun c h=>by cases h),fun ρ w=>⟨fun f h=>by simp [Oper.about] at h,calm_value _ w⟩⟩
theorem still_builtin_len {F:Fence} {P:Program} (d:Option Tmp) (xs:Array Operand) (ts:Array TypeId) (t:TypeId) (p:String) (e:Array Edge) (g:Option (Nat × Bool)):Still F P { dst:=d,op:=.call { callee:=.builtin .len,args:=xs,argTypes:=ts },type:=t,pos:=p,after:=e,guard:=g } :=
 ⟨(fun c h => by cases h), fun ρ w => ⟨fun f h => by simp [Oper.about, resolve, go_sem] at h, by
   simp only [execOp,resolve,invoke,builtin,Sem.run_bind,Sem.run_pure,Result.andThen_ok]
   exact calm_then _⟩⟩
def Keep2 (Bs Bn:Nat) (A B:World):Prop:=B.cell? ⟨Bs,0,none⟩=A.cell? ⟨Bs,0,none⟩∧B.cell? ⟨Bn,0,none⟩=A.cell? ⟨Bn,0,none⟩
theorem Keep2.trans {Bs Bn:Nat} {A B C:World} (h:Keep2 Bs Bn A B) (k:Keep2 Bs Bn B C):Keep2 Bs Bn A C:=⟨k.1.trans h.1,k.2.trans h.2⟩
def piece (g d:Nat) (cap:Nat) (x:Nat):Array Value:=#[.slice (some ⟨g,x * d,none⟩) d d]
def first (k:Nat):List Nat:=List.range k
theorem zcu (k:Nat):first (k+1)=first k ++ [k]:=by simp [first,List.range_succ]
theorem first_len (k:Nat):(first k).length=k:=by simp [first]
theorem chunk_in (F:Fence) (n:Nat) (h8:F.fn 161) (hro:F.round=none) (hn:1≤n) (l Bs Bn g d r L cap:Nat) (hd:1≤d) (hdm:d≤1024) (hL:r * d=L) (hLm:L≤1000000) (hcap:L≤cap) (hcm:cap≤maxLen) (J Jx:List Nat→World→Prop)
  (hJd:∀ pre W,J pre W→J pre W.drew)
  (hY:∀ pre W,J pre W→pre.length < r→YieldAt F (n - 1) Tryz.prog l (piece g d cap pre.length) W fun e W' =>
    (e=.returned (.bool true)∧J (pre ++ [pre.length]) W'∧Keep2 Bs Bn W W')∨(e=.returned (.bool false)∧Jx (pre ++ [pre.length]) W'))
  (W:World) (hBs:W.cell? ⟨Bs,0,none⟩=some (.slice (some ⟨g,0,none⟩) L cap)) (hBn:W.cell? ⟨Bn,0,none⟩=some (.int .i64 d)) (h0:J [] W) :
  CallsIn F n Tryz.prog 161 #[.func (.yield l) #[] #[],.pointer (some ⟨Bs,0,none⟩),.pointer (some ⟨Bn,0,none⟩)] W fun e W'=>(∃ v,e=.returned v) ∧
   ((∃ ys,ys=first r∧J ys W')∨(∃ pre,(∃ k,k≤r∧pre=first k)∧Jx pre W')):=by
 refine callsIn_of_wp Tryz.func161 rfl h8 ?_ hro
 simp only [Tryz.ntmps161,List.size_toArray,List.length_cons,List.length_nil,Nat.reduceAdd,Nat.reduceSub,Array.replicate_succ,Array.replicate_zero,List.push_toArray,List.append_toArray,List.nil_append,List.cons_append]
 have HL:=hid hL
 clear hL
 gi_wp2
 gi_loopw [4] (fun i wr=>∃ k:Nat,k≤r∧i=.int .i64 ((k * d:Nat):Int)∧J (first k) wr∧Hid (Keep2 Bs Bn W wr))
  (fun i _=>L - (intOf i).toNat)
 case atStart=>exact⟨0,Nat.zero_le _,by simp,h0,hid ⟨rfl,rfl⟩⟩
 case round =>
  obtain⟨k,hk,rfl,hJs,hK⟩:=hrel
  have cs:=hK.out.1.trans hBs
  have cn:=hK.out.2.trans hBn
  obtain⟨q,hq⟩:∃ q,k * d=q:=⟨_,rfl⟩
  have hqL:q≤L:=by rw [← hq, ← HL.out];exact Nat.mul_le_mul_right _ hk
  rw [hq]
  by_cases hlt:k < r
  ·have hq1:q+d≤L:=by
    have:=Nat.mul_le_mul_right d (show k+1≤r by omega)
    rw [Nat.add_mul,Nat.one_mul,hq,HL.out] at this;exact this
   have hq2:(k+1) * d=q+d:=by rw [Nat.add_mul,Nat.one_mul,hq]
   have hqI:(q:Int) < (L:Int):=by omega
   have HQ:=hid hq
   have HQ2:=hid hq2
   have e1:IntKind.i64.wrap ((q:Int)+(d:Int))=((q+d:Nat):Int):=by rw [IntWalk.i64_in _ (by omega)];omega
   have hYk:=hY _ wr.drew (hJd _ _ hJs) (by rw [first_len];exact hlt)
   rw [first_len] at hYk
   have HYK:=hid hYk
   clear hq hq2 hYk
   have hq0:(0:Int)≤(q:Int):=by omega
   have hqL2:(q:Int)≤(L:Int):=by omega
   have hqc:(q:Int)≤(cap:Int):=by omega
   have m1:¬ ((L:Int) - (q:Int)) < (d:Int):=by omega
   have m2:¬ (L - q) < d:=by omega
   have m3:¬ ((L - q:Nat):Int) < (d:Int):=by omega
   have m4:min (d:Int) ((L:Int) - (q:Int))=(d:Int):=by omega
   have m5:min d (L - q)=d:=by omega
   have m6:min (d:Int) ((L - q:Nat):Int)=(d:Int):=by omega
   gi_wp2
   refine region_round (by kernel_rfl) (still_of_list (by simp only [List.forall_mem_cons];exact⟨still_load ..,still_load ..,still_move ..,still_slice ..,still_builtin_len ..,still_builtin_min ..,still_assign ..,fun _ h=>by cases h⟩)) ?_
   have cs2:wr.drew.cell? ⟨Bs,0,none⟩=some (.slice (some ⟨g,0,none⟩) L cap):=cs
   have cn2:wr.drew.cell? ⟨Bn,0,none⟩=some (.int .i64 d):=cn
   have HK2:Hid (Keep2 Bs Bn W wr.drew):=hK
   clear cs cn hJs hK
   generalize wr.drew=Wd at cs2 cn2 HK2 HYK ⊢
   refine Tk.z 2 rfl ?_
   try simp only [Tk.put]
   refine wpAny_ready (rs:=[0,1]) (by kernel_rfl) (by simp) ?_
   refine Tk.d rfl (fun K hK=>?_) ?_
   ·go_simp
    refine hK _ _ ?_
    clear hK K
    try simp only [Tk.put]
    refine Tk.q 1 rfl (fun K hK=>?_)
    go_simp
    refine hK _ _ ?_
    clear hK K
    try simp only [Tk.put]
    refine Tk.z 3 rfl ?_
    try simp only [Tk.put]
    refine Tk.z 4 rfl ?_
    try simp only [Tk.put]
    refine Tk.z 5 rfl ?_
    try simp only [Tk.put]
    refine Tk.z 6 rfl ?_
    try simp only [Tk.put]
    refine wpAny_done (by kernel_rfl) ?_ _
    simp only [Norm]
    obtain⟨fn,tmps,assign,body,hy,hR⟩:=HYK.out
    unfold piece at hy
    rw [HQ.out] at hy
    gi_wp2
    refine hR.mono ?_
    rintro e W3 (⟨rfl,hJ3,hk3⟩ | ⟨rfl,hJx3⟩)
    ·have hK3:=hid (HK2.out.trans hk3)
     have cn3:=hk3.2.trans cn2
     clear hk3
     gi_wp2
     go_roundw
     case rel=>exact⟨k+1,by omega,by rw [HQ2.out];go_num,by rw [zcu];exact hJ3,hK3⟩
     case measure=>simp [intOf];omega
    ·gi_wp2
     refine bodyPost_ret (results_none rfl _ _ _) rfl ?_
     exact⟨⟨_,rfl⟩,.inr ⟨_,⟨k+1,by omega,(zcu _).symm⟩,hJx3⟩⟩
   refine Tk.d rfl (fun K hK=>?_) ?_
   ·go_simp
    refine hK _ _ ?_
    clear hK K
    try simp only [Tk.put]
    refine Tk.z 3 rfl ?_
    try simp only [Tk.put]
    refine Tk.z 4 rfl ?_
    try simp only [Tk.put]
    refine Tk.q 0 rfl (fun K hK=>?_)
    go_simp
    refine hK _ _ ?_
    clear hK K
    try simp only [Tk.put]
    refine Tk.z 5 rfl ?_
    try simp only [Tk.put]
    refine Tk.z 6 rfl ?_
    try simp only [Tk.put]
    refine wpAny_done (by kernel_rfl) ?_ _
    simp only [Norm]
    obtain⟨fn,tmps,assign,body,hy,hR⟩:=HYK.out
    unfold piece at hy
    rw [HQ.out] at hy
    gi_wp2
    refine hR.mono ?_
    rintro e W3 (⟨rfl,hJ3,hk3⟩ | ⟨rfl,hJx3⟩)
    ·have hK3:=hid (HK2.out.trans hk3)
     have cn3:=hk3.2.trans cn2
     clear hk3
     gi_wp2
     go_roundw
     case rel=>exact⟨k+1,by omega,by rw [HQ2.out];go_num,by rw [zcu];exact hJ3,hK3⟩
     case measure=>simp [intOf];omega
    ·gi_wp2
     refine bodyPost_ret (results_none rfl _ _ _) rfl ?_
     exact⟨⟨_,rfl⟩,.inr ⟨_,⟨k+1,by omega,(zcu _).symm⟩,hJx3⟩⟩
   exact fun j hj=>by cases hj
  ·obtain rfl:k=r:=by omega
   rw [HL.out] at hq
   subst hq
   gi_wp2
   go_end0
   exact⟨⟨_,rfl⟩,.inl ⟨_,rfl,hJs⟩⟩
end CLower
end
section
namespace CPool
open Go Go.ChangeShapes Go.WideShapes Go.ChangeAt Go.RowKit Go.Shelf
open Plain CSat CShape CTensor CConv
attribute [local go_sem] Oper.semAt_some
def hereI (H W C top left:Int) (o i j:Nat):List Nat :=
 if 0≤top+(i:Int)∧top+(i:Int) < H∧0≤left+(j:Int)∧left+(j:Int) < W then [(((top+(i:Int)) * W+(left+(j:Int))) * C+(o:Int)).toNat] else []
def colI (H W C top left:Int) (o i:Nat):Nat→List Nat
 | 0=>[]
 | j+1=>colI H W C top left o i j ++ hereI H W C top left o i j
def rowsI (H W C top left:Int) (kk o:Nat):Nat→List Nat
 | 0=>[]
 | i+1=>rowsI H W C top left kk o i ++ colI H W C top left o i kk
theorem hereI_L (zs:List Int) (H W C top left:Int) (o i j:Nat):hereL zs H W C top left o i j=(hereI H W C top left o i j).map (fun k=>zs.getD k 0):=by
 unfold hereL hereI;split <;> rfl
theorem colI_L (zs:List Int) (H W C top left:Int) (o i:Nat):∀ j,colL zs H W C top left o i j=(colI H W C top left o i j).map (fun k=>zs.getD k 0)
 | 0=>rfl
 | j+1=>by
   show colL zs H W C top left o i j ++ hereL zs H W C top left o i j=(colI H W C top left o i j ++ hereI H W C top left o i j).map _
   rw [List.map_append,colI_L zs H W C top left o i j,hereI_L]
theorem rowsI_L (zs:List Int) (H W C top left:Int) (kk o:Nat):∀ i,rowsL zs H W C top left kk o i=(rowsI H W C top left kk o i).map (fun k=>zs.getD k 0)
 | 0=>rfl
 | i+1=>by
   show rowsL zs H W C top left kk o i ++ colL zs H W C top left o i kk=(rowsI H W C top left kk o i ++ colI H W C top left o i kk).map _
   rw [List.map_append,rowsI_L zs H W C top left kk o i,colI_L]
theorem hereI_len (H W C top left:Int) (o i j:Nat):(hereI H W C top left o i j).length≤1:=by unfold hereI;split <;> simp
theorem colI_len (H W C top left:Int) (o i:Nat):∀ j,(colI H W C top left o i j).length≤j
 | 0=>le_refl _
 | j+1=>by
   show (colI H W C top left o i j ++ hereI H W C top left o i j).length≤j+1
   rw [List.length_append]
   have:=colI_len H W C top left o i j
   have:=hereI_len H W C top left o i j
   omega
theorem rowsI_len (H W C top left:Int) (kk o:Nat):∀ i,(rowsI H W C top left kk o i).length≤i * kk
 | 0=>by simp [rowsI]
 | i+1=>by
   show (rowsI H W C top left kk o i ++ colI H W C top left o i kk).length≤(i+1) * kk
   rw [List.length_append,Nat.add_mul,Nat.one_mul]
   have:=rowsI_len H W C top left kk o i
   have:=colI_len H W C top left o i kk
   omega
def CapAt (g:Nat) (H W C:Int) (A:Option Addr) (N c:Nat) (side top left ch:Int) (wd:World):Prop :=
 BoxAt g H W C A N c wd∧wd.cell? ⟨g+1,0,none⟩=some (.int .i64 side)∧wd.cell? ⟨g+2,0,none⟩=some (.int .i64 top)∧wd.cell? ⟨g+3,0,none⟩=some (.int .i64 left)∧wd.cell? ⟨g+4,0,none⟩=some (.int .i64 ch)
theorem CapAt.below {g n₀:Nat} {H W C:Int} {A:Option Addr} {N c:Nat} {side top left ch:Int} {w w':World} (h:CapAt g H W C A N c side top left ch w) (hg:g+4 < n₀) (hb:Below n₀ w w'):CapAt g H W C A N c side top left ch w' :=
 ⟨h.1.below (by omega) hb,(hb.cell (p:=⟨g+1,0,none⟩) (show g+1 < n₀ by omega)).trans h.2.1,(hb.cell (p:=⟨g+2,0,none⟩) (show g+2 < n₀ by omega)).trans h.2.2.1,(hb.cell (p:=⟨g+3,0,none⟩) (show g+3 < n₀ by omega)).trans h.2.2.2.1,(hb.cell (p:=⟨g+4,0,none⟩) hg).trans h.2.2.2.2⟩
theorem pwin_to (H W C:Int) (A:Option Addr) (N c:Nat) (side top left ch:Int) (w:World) :
  Calls Tryz.prog 115 #[.agg #[.int .i64 H,.int .i64 W,.int .i64 C,.slice A N c],.int .i64 side,.int .i64 top,.int .i64 left,.int .i64 ch] w fun e w'=>e=.returned (.func (.func 132) #[] #[.pointer (some ⟨w.heap.size+1,0,none⟩),.pointer (some ⟨w.heap.size,0,none⟩),.pointer (some ⟨w.heap.size+2,0,none⟩),.pointer (some ⟨w.heap.size+3,0,none⟩),.pointer (some ⟨w.heap.size+4,0,none⟩)])∧CapAt w.heap.size H W C A N c side top left ch w'∧Below w.heap.size w w'∧w'.heap.size=w.heap.size+5:=by
 go_enter Tryz.func115,Tryz.ntmps115
 go_wp2_with fail
 go_ret
 have hb:Below w.heap.size w (((((w.alloc (.cells #[.int .i64 H,.int .i64 W,.int .i64 C,.slice A N c] 27)).alloc (.cells #[.int .i64 side] 3)).alloc (.cells #[.int .i64 top] 3)).alloc (.cells #[.int .i64 left] 3)).alloc (.cells #[.int .i64 ch] 3)):=by
  refine Below.alloc (Below.alloc (Below.alloc (Below.alloc (Below.alloc (Below.refl _ _) (le_refl _) _) ?_ _) ?_ _) ?_ _) ?_ _
  all_goals (simp;try omega)
 refine⟨rfl,⟨?_,?_,?_,?_,?_⟩,hb,by simp⟩
 ·refine (zbd H W C A N c 27 w).below (B':=w.heap.size+1) (by omega) ?_
  refine Below.alloc (Below.alloc (Below.alloc (Below.alloc (Below.refl _ _) ?_ _) ?_ _) ?_ _) ?_ _
  all_goals (simp;try omega)
 ·have h:=Kit.zaf (w.alloc (.cells #[.int .i64 H,.int .i64 W,.int .i64 C,.slice A N c] 27)) #[.int .i64 side] 3 0
  simp only [World.size_alloc] at h
  rw [World.cell?_alloc_lt _ _ _ (by first | (simp;done) | (simp;omega)),World.cell?_alloc_lt _ _ _ (by first | (simp;done) | (simp;omega)),World.cell?_alloc_lt _ _ _ (by simp)]
  exact h
 ·have h:=Kit.zaf ((w.alloc (.cells #[.int .i64 H,.int .i64 W,.int .i64 C,.slice A N c] 27)).alloc (.cells #[.int .i64 side] 3)) #[.int .i64 top] 3 0
  simp only [World.size_alloc] at h
  rw [World.cell?_alloc_lt _ _ _ (by first | (simp;done) | (simp;omega)),World.cell?_alloc_lt _ _ _ (by simp)]
  exact h
 ·have h:=Kit.zaf (((w.alloc (.cells #[.int .i64 H,.int .i64 W,.int .i64 C,.slice A N c] 27)).alloc (.cells #[.int .i64 side] 3)).alloc (.cells #[.int .i64 top] 3)) #[.int .i64 left] 3 0
  simp only [World.size_alloc] at h
  rw [World.cell?_alloc_lt _ _ _ (by simp)]
  exact h
 ·have h:=Kit.zaf ((((w.alloc (.cells #[.int .i64 H,.int .i64 W,.int .i64 C,.slice A N c] 27)).alloc (.cells #[.int .i64 side] 3)).alloc (.cells #[.int .i64 top] 3)).alloc (.cells #[.int .i64 left] 3)) #[.int .i64 ch] 3 0
  simp only [World.size_alloc] at h
  exact h
theorem pwin_in (n:Nat) (hn:1≤n) (l g n₀ b off:Nat) (H W C:Int) (N c kk o d:Nat) (top left:Int) (G:Nat→Int) (ht:tensB H W C N=true) (hd:C=(d:Int)) (ho:o < d) (hk7:kk≤7)
  (t1 : -1000≤top) (t2:top≤1000) (l1 : -1000≤left) (l2:left≤1000) (hg:g+4 < n₀) (hb:b < n₀) (J Jx:List Nat→World→Prop) (hJ:∀ pre W W',J pre W→Below W.heap.size W W'→J pre W')
  (hY:∀ pre x W,J pre W→pre.length < 64→YieldAt Fence.wide (n - 1) Tryz.prog l #[.int .i8 (G x)] W fun e W' =>
    (e=.returned (.bool true)∧J (pre ++ [x]) W'∧Below n₀ W W')∨(e=.returned (.bool false)∧Jx (pre ++ [x]) W'))
  (w0:World) (hn₀:n₀≤w0.heap.size) (hcap:CapAt g H W C (some ⟨b,off,none⟩) N c (kk:Int) top left (o:Int) w0)
  (hc:∀ j,j < N→w0.cell? ⟨b,off+j,none⟩=some (.int .i8 (G j))) (h0:J [] w0) :
  CallsIn Fence.wide n Tryz.prog 132 (#[.func (.yield l) #[] #[]] ++ #[.pointer (some ⟨g+1,0,none⟩),.pointer (some ⟨g,0,none⟩),.pointer (some ⟨g+2,0,none⟩),.pointer (some ⟨g+3,0,none⟩),.pointer (some ⟨g+4,0,none⟩)]) w0 fun e W'=>(∃ v,e=.returned v) ∧
   ((∃ ls,ls=rowsI H W C top left kk o kk∧J ls W')∨(∃ pre,Jx pre W')):=by
 have hs:zad H W C=true:=by simp only [tensB,Bool.and_eq_true] at ht;exact ht.1
 have hN:(N:Int)=H * W * C:=by have:=ht;unfold tensB at this;simp at this;exact this.2
 obtain⟨g1,g2,g3,g4,g5,g6,g7⟩:=zab hs
 refine callsIn_of_wp Tryz.func132 rfl trivial ?_ rfl
 simp only [Tryz.ntmps132,List.size_toArray,List.length_cons,List.length_nil,Nat.reduceAdd,Nat.reduceSub,Array.replicate_succ,Array.replicate_zero,List.push_toArray,List.append_toArray,List.nil_append,List.cons_append]
 have hwide:∀ f,Fence.wide.fn f:=fun _=>trivial
 have HY:=hid hY
 have HC:=hid hc
 have HJ:=hid hJ
 have HCAP:=hid hcap
 have HS:=hid hs
 have HN:=hid hN
 have HD:=hid hd
 have c1:=hcap.2.1
 clear hY hc hJ hcap hs hN hd ht g7
 gi_wp2
 gi_loopw [12] (fun u wr=>∃ i:Nat,i≤kk∧u=.int .i64 i∧Hid (J (rowsI H W C top left kk o i) wr)∧Hid (Below n₀ w0 wr)∧n₀≤wr.heap.size)
  (fun u _=>kk - (intOf u).toNat)
 case atStart=>exact⟨0,Nat.zero_le _,rfl,hid h0,hid (Below.refl _ _),hn₀⟩
 case round =>
  obtain⟨i,hi,rfl,hJs,hB,hz⟩:=hrel
  clear c1
  by_cases hlt:i < kk
  ·have hiI:(i:Int) < (kk:Int):=by omega
   have c1:=(HCAP.out.below hg hB.out).2.1
   have hJ0:Hid (J (rowsI H W C top left kk o i ++ colI H W C top left o i 0) wr):=hid (by simpa [colI] using hJs.out)
   clear hJs
   gi_wp2
   gi_loopw [16] (fun u wr=>∃ j:Nat,j≤kk∧u=.int .i64 j∧Hid (J (rowsI H W C top left kk o i ++ colI H W C top left o i j) wr)∧Hid (Below n₀ w0 wr)∧n₀≤wr.heap.size)
    (fun u _=>kk - (intOf u).toNat)
   case atStart=>exact⟨0,Nat.zero_le _,rfl,hJ0,hB,hz⟩
   case round =>
    clear hJ0 hB hz c1
    obtain⟨j,hj,rfl,hJs,hB,hz⟩:=hrel
    by_cases hltj:j < kk
    ·have hjI:(j:Int) < (kk:Int):=by omega
     obtain⟨⟨k0,k1,k2,k3⟩,c1,c2,c3,c4⟩:=HCAP.out.below hg hB.out
     obtain⟨yv,hyv⟩:∃ yv,top+(i:Int)=yv:=⟨_,rfl⟩
     obtain⟨xv,hxv⟩:∃ xv,left+(j:Int)=xv:=⟨_,rfl⟩
     have e1:IntKind.i64.wrap (top+(i:Int))=yv:=by rw [IntWalk.i64_in _ (by omega),hyv]
     have e2:IntKind.i64.wrap (left+(j:Int))=xv:=by rw [IntWalk.i64_in _ (by omega),hxv]
     have hlen:(rowsI H W C top left kk o i ++ colI H W C top left o i j).length < 64:=by
      have q1:=rowsI_len H W C top left kk o i
      have q2:=colI_len H W C top left o i j
      have q3:i * kk≤49:=Nat.le_trans (Nat.mul_le_mul (show i≤7 by omega) hk7) (by omega)
      rw [List.length_append];omega
     have hnx:rowsI H W C top left kk o i ++ colI H W C top left o i (j+1)=(rowsI H W C top left kk o i ++ colI H W C top left o i j) ++ hereI H W C top left o i j:=by
      rw [List.append_assoc];rfl
     obtain⟨L1,hL1⟩:∃ L1,rowsI H W C top left kk o i ++ colI H W C top left o i j=L1:=⟨_,rfl⟩
     rw [hL1] at hJs hlen hnx
     have hCd:=HD.out
     by_cases hin:0≤yv∧yv < H∧0≤xv∧xv < W
     ·obtain⟨hy0,hyH,hx0,hxW⟩:=hin
      have hins:inB H W C yv xv (o:Int)=true:=by unfold inB;rw [HS.out];simp;omega
      obtain⟨pos,hpos⟩:∃ pos,(yv * W+xv) * C+(o:Int)=pos:=⟨_,rfl⟩
      obtain⟨p1,p2,p3,p4,p5⟩:=at_bd (c:=(o:Int)) HS.out hy0 hyH hx0 hxW (by omega) (by omega)
      have hp0:0≤pos:=by omega
      obtain⟨ix,hix⟩:∃ ix:Nat,pos=(ix:Int):=⟨pos.toNat,by omega⟩
      have hixN:ix < N:=by have:=HN.out;omega
      have hhere:hereI H W C top left o i j=[ix]:=by
       unfold hereI;rw [hyv,hxv,if_pos ⟨hy0,hyH,hx0,hxW⟩,hpos,hix];simp
      have HIX:Hid (indexZ H W C yv xv (o:Int) 0=(ix:Int)):=hid (by rw [indexZ_yes hins,hpos,hix])
      have HINS:=hid hins
      have HNX:Hid (rowsI H W C top left kk o i ++ colI H W C top left o i (j+1)=L1 ++ [ix]):=hid (by rw [hnx,hhere])
      have hixI:(ix:Int) < (N:Int):=by omega
      have hix0:(0:Int)≤(ix:Int):=by omega
      clear hnx hhere hyv hxv hins hpos p1 p2 p3 p4 p5 hp0 hix hCd
      gi_wp2_with (gi_at_call 133;(refine ((callsIn_wide (n:=n - 1)).2 (index_to H W C yv xv (o:Int) (ix:Int) true HINS.out HIX.out _)).mono ?_);(rintro e w2 ⟨rfl,hb2⟩;have hJ2:=HJ.out _ _ _ hJs.out hb2;have hB2:=hB.out.trans (hb2.mono hz);obtain⟨⟨_,_,_,k3⟩,_,_,_,_⟩:=HCAP.out.below hg hB2;have hcx:=(hB2.cell (p:=⟨b,off+ix,none⟩) hb).trans (HC.out ix hixN);have hz2:=Nat.le_trans hz hb2.size;obtain⟨fn,tmps,assign,body,hy,hR⟩:=HY.out _ ix w2 hJ2 hlen;generalize G ix=x at hcx hR hy))
      refine hR.mono ?_
      rintro e W3 (⟨rfl,hJ3,hk3⟩ | ⟨rfl,hJx3⟩)
      ·have HJ3:Hid (J (rowsI H W C top left kk o i ++ colI H W C top left o i (j+1)) W3):=hid (by rw [HNX.out];exact hJ3)
       have HB3:=hid (hB2.trans hk3)
       have hz3:=Nat.le_trans hz2 hk3.size
       clear hJ3 hk3 hcx hy hR
       gi_wp2
       go_roundw
       case rel=>exact⟨j+1,by omega,by simp,HJ3,HB3,hz3⟩
       case measure=>simp [intOf];omega
      ·gi_wp2
       refine bodyPost_ret (results_none rfl _ _ _) rfl ?_
       exact⟨⟨_,rfl⟩,.inr ⟨_,hJx3⟩⟩
     ·have hins:inB H W C yv xv (o:Int)=false:=by unfold inB;rw [HS.out];simp;omega
      have hhere:hereI H W C top left o i j=[]:=by unfold hereI;rw [hyv,hxv,if_neg hin]
      have HIX:Hid (indexZ H W C yv xv (o:Int) 0=0):=hid (indexZ_no hins)
      have HINS:=hid hins
      have HNX:Hid (rowsI H W C top left kk o i ++ colI H W C top left o i (j+1)=L1):=hid (by rw [hnx,hhere,List.append_nil])
      clear hnx hhere hyv hxv hins hin hCd
      gi_wp2_with (gi_at_call 133;(refine ((callsIn_wide (n:=n - 1)).2 (index_to H W C yv xv (o:Int) 0 false HINS.out HIX.out _)).mono ?_);(rintro e w2 ⟨rfl,hb2⟩;have hJ2:=HJ.out _ _ _ hJs.out hb2;have hB2:=hB.out.trans (hb2.mono hz);have hz2:=Nat.le_trans hz hb2.size))
      go_roundw
      case rel=>exact⟨j+1,by omega,by simp,hid (by rw [HNX.out];exact hJ2),hid hB2,hz2⟩
      case measure=>simp [intOf];omega
    ·obtain rfl:j=kk:=by omega
     gi_wp2
     go_roundw
     case rel=>exact⟨i+1,by omega,by simp,hJs,hB,hz⟩
     case measure=>simp [intOf];omega
  ·obtain rfl:i=kk:=by omega
   gi_wp2
   go_end0
   exact⟨⟨_,rfl⟩,.inl ⟨_,rfl,hJs.out⟩⟩
theorem abides_below {β:Type} {B:Nat} {J:β→World→Prop} (h:AbidesFrom B J) (s:β) (W W':World) (hs:J s W) (hb:Below W.heap.size W W'):J s W' :=
 h s W W' none hs (Kit.za2 hb none) (fun r e=>by cases e)
theorem seq_window (n:Nat) (hn:1≤n) (g n₀ b off:Nat) (H W C:Int) (N c kk o d:Nat) (top left:Int) (G:Nat→Int) (ht:tensB H W C N=true) (hd:C=(d:Int)) (ho:o < d) (hk7:kk≤7)
  (t1 : -1000≤top) (t2:top≤1000) (l1 : -1000≤left) (l2:left≤1000) (hg:g+4 < n₀) (hb:b < n₀) (w:World) (hn₀:n₀≤w.heap.size) (hcap:CapAt g H W C (some ⟨b,off,none⟩) N c (kk:Int) top left (o:Int) w)
  (hc:∀ j,j < N→w.cell? ⟨b,off+j,none⟩=some (.int .i8 (G j))) :
  SeqStopsK Fence.wide n Tryz.prog 132 #[.pointer (some ⟨g+1,0,none⟩),.pointer (some ⟨g,0,none⟩),.pointer (some ⟨g+2,0,none⟩),.pointer (some ⟨g+3,0,none⟩),.pointer (some ⟨g+4,0,none⟩)] (fun x:Nat=>#[Value.int .i8 (G x)]) (Below n₀) (fun ls=>ls=rowsI H W C top left kk o kk) (fun _=>True) 64 w:=by
 intro l J Jx W0 hW hJ _ hY h0
 have hW':=hW.mono hn₀
 refine (pwin_in n hn l g n₀ b off H W C N c kk o d top left G ht hd ho hk7 t1 t2 l1 l2 hg hb J Jx (abides_below hJ) hY W0 (Nat.le_trans hn₀ hW.size) (hcap.below hg hW') (fun j hj=>(hW'.cell (p:=⟨b,off+j,none⟩) hb).trans (hc j hj)) h0).mono ?_
 rintro e W' ⟨he,(⟨ls,rfl,hj⟩ | ⟨pre,hj⟩)⟩
 ·exact⟨he,.inl ⟨_,rfl,hj⟩⟩
 ·exact⟨he,.inr ⟨_,trivial,hj⟩⟩
end CPool
end
end Go.Proofs.YtahekhpeomcfjaaGreatDoor
