/- -/
import Derived.Test.YtchpdhhpkljdhaaGreatDoorGD24
import Derived.Test.YtchpdhhpkljdhaaGreatDoorGD27
import Derived.Test.YtchpdhhpkljdhaaGreatDoorGD29
open Go.Value renaming int→Jj
open Go.IntKind renaming i64→Jq
open Go.Lib (hid)
open Nat (le_refl lt_of_succ_lt lt_succ_self)
set_option linter.unusedVariables false
set_option linter.unusedSimpArgs false
set_option maxRecDepth 100000
set_option maxHeartbeats 16000000
namespace Go.Proofs.YtchpdhhpkljdhaaGreatDoor
namespace CConv
end CConv
namespace CKind
end CKind
namespace CSat
end CSat
open Go Go.ChangeShapes Go.WideShapes Go.ChangeAt Go.RowKit Go.Deep
section
namespace CKind
open Plain CSat CFix CShape CTensor CConv
def Nd.checkZ (x:Nd):Int :=
 if x.kd < 1∨9 < x.kd then 6 else if x.moreB=true then 2 else if ((zaf x.kd && !zau x.m1 x.s1) || (x.kd == 6 && !zau x.m2 x.s2))=true then 7 else if (zaf x.kd && decide (x.hi < x.lo))=true then 2 else 0
theorem refRight_b (m s z:Int) (b:Bool) (h:zau m s=b) (w:World):Calls Tryz.prog 64 #[.agg #[.int .i32 m,Jj Jq s,.int .i8 z]] w fun e w'=>e=.returned (.bool b)∧Below w.heap.size w w':=by
 cases b
 ·exact zdg m s z h w
 ·exact zcm m s z h w
theorem kname_nil (k:Int):(kname k).toList.isEmpty=decide (k < 1∨9 < k):=by
 rw [ByteArray.toList_eq]
 by_cases h:k < 1∨9 < k
 ·rw [kname_no h];simp only [h,decide_true];decide
 ·exact Z2d
def CheckIs (f:FuncId) (x:Nd):Prop:=∀ w:World,Calls Tryz.prog f #[.agg x.val] w fun e w'=>e=.returned (Jj Jq x.checkZ)∧Below w.heap.size w w'
theorem zbp (x:Nd):CheckIs 21 x:=fun w=>by
 refine Z7d ?_;intro TN HB
 have hsz:w.heap.size < (w.alloc (.cells x.val 28)).heap.size:=by simp
 have hnn:=kname_nil x.kd
 obtain⟨nm,hnm⟩:∃ nm,kname x.kd=nm:=⟨_,rfl⟩
 obtain⟨mb,hmb⟩:∃ mb,x.moreB=mb:=⟨_,rfl⟩
 obtain⟨sb,hsb⟩:∃ sb,zaf x.kd=sb:=⟨_,rfl⟩
 obtain⟨r1,hr1⟩:∃ b,zau x.m1 x.s1=b:=⟨_,rfl⟩
 obtain⟨r2,hr2⟩:∃ b,zau x.m2 x.s2=b:=⟨_,rfl⟩
 rw [hnm] at hnn
 have hna:=fun (w:World)=>refName_to x.kd w
 have hmo:=fun (w:World)=>refMore_to x w
 have hsc:=fun (w:World)=>zab x.kd w
 rw [hnm] at hna
 rw [hmb] at hmo
 rw [hsb] at hsc
 have HNA:=hid hna
 have HMO:=hid hmo
 have HSC:=hid hsc
 have HRA:=hid (fun (w:World)=>refRight_b x.m1 x.s1 x.z1 r1 hr1 w)
 have HRB:=hid (fun (w:World)=>refRight_b x.m2 x.s2 x.z2 r2 hr2 w)
 have HNN:=hid hnn
 have hz:x.checkZ=if x.kd < 1∨9 < x.kd then 6 else if mb=true then 2 else if ((sb && !r1) || (x.kd == 6 && !r2))=true then 7 else if (sb && decide (x.hi < x.lo))=true then 2 else 0:=by unfold Nd.checkZ;rw [hmb,hsb,hr1,hr2]
 have HZ:=hid hz
 clear hnn hnm hmb hsb hr1 hr2 hz hna hmo hsc
 unfold Nd.val at *
 go_enter Tryz.func21,Tryz.ntmps21
 go_upto_region 1 with fail
 generalize w.alloc (.cells #[Jj Jq x.kd,Jj Jq x.na,Jj Jq x.nb,Jj Jq x.K,Jj Jq x.S,Jj Jq x.P,Jj Jq x.O,.int .i8 x.Z,.int .i8 x.Y,.slice x.WA x.nW x.cW,.slice x.BA x.nB x.cB,.int .i32 x.m1,Jj Jq x.s1,.int .i8 x.z1,.int .i32 x.m2,Jj Jq x.s2,.int .i8 x.z2,.int .i8 x.lo,.int .i8 x.hi] 28)=W0 at TN HB hsz ⊢
 have HS:Hid (w.heap.size < W0.heap.size):=hid hsz
 clear hsz
 have n0:=TN.out.at 0 _ rfl;have n11:=TN.out.at 11 _ rfl;have n12:=TN.out.at 12 _ rfl;have n13:=TN.out.at 13 _ rfl;have n14:=TN.out.at 14 _ rfl;have n15:=TN.out.at 15 _ rfl;have n16:=TN.out.at 16 _ rfl;have n17:=TN.out.at 17 _ rfl;have n18:=TN.out.at 18 _ rfl
 by_cases hk:x.kd < 1∨9 < x.kd
 ·have hne:nm.toList.isEmpty=true:=by rw [HNN.out];simp [hk]
  have HK:=hid hk
  clear hk
  go_wp2_with (go_at_call 61;(with_reducible refine (HNA.out _).mono ?_);rintro e w1 ⟨rfl,hb⟩;(replace TN:=hid (TN.out.below HS.out hb));(replace HB:=hid (HB.out.trans (hb.mono HB.out.size)));(replace HS:=hid (Nat.lt_of_lt_of_le HS.out hb.size));clear hb n0 n11 n12 n13 n14 n15 n16 n17 n18;(have n0:=TN.out.at 0 _ rfl);(have n11:=TN.out.at 11 _ rfl);(have n12:=TN.out.at 12 _ rfl);(have n13:=TN.out.at 13 _ rfl);(have n14:=TN.out.at 14 _ rfl);(have n15:=TN.out.at 15 _ rfl);(have n16:=TN.out.at 16 _ rfl);(have n17:=TN.out.at 17 _ rfl);(have n18:=TN.out.at 18 _ rfl))
  go_ret
  exact⟨by rw [HZ.out,if_pos HK.out];rfl,HB.out⟩
 ·have hne:nm.toList.isEmpty=false:=by rw [HNN.out];simp [hk]
  have HK:=hid hk
  clear hk
  go_upto_region 3 with (go_at_call 61;(with_reducible refine (HNA.out _).mono ?_);rintro e w1 ⟨rfl,hb⟩;(replace TN:=hid (TN.out.below HS.out hb));(replace HB:=hid (HB.out.trans (hb.mono HB.out.size)));(replace HS:=hid (Nat.lt_of_lt_of_le HS.out hb.size));clear hb n0 n11 n12 n13 n14 n15 n16 n17 n18;(have n0:=TN.out.at 0 _ rfl);(have n11:=TN.out.at 11 _ rfl);(have n12:=TN.out.at 12 _ rfl);(have n13:=TN.out.at 13 _ rfl);(have n14:=TN.out.at 14 _ rfl);(have n15:=TN.out.at 15 _ rfl);(have n16:=TN.out.at 16 _ rfl);(have n17:=TN.out.at 17 _ rfl);(have n18:=TN.out.at 18 _ rfl))
  clear hne
  cases mb with
  | true =>
    go_wp2_with (first
     | (go_at_call 62;(with_reducible refine (HMO.out _).mono ?_);rintro e w1 ⟨rfl,hb⟩;(replace TN:=hid (TN.out.below HS.out hb));(replace HB:=hid (HB.out.trans (hb.mono HB.out.size)));(replace HS:=hid (Nat.lt_of_lt_of_le HS.out hb.size));clear hb n0 n11 n12 n13 n14 n15 n16 n17 n18;(have n0:=TN.out.at 0 _ rfl);(have n11:=TN.out.at 11 _ rfl);(have n12:=TN.out.at 12 _ rfl);(have n13:=TN.out.at 13 _ rfl);(have n14:=TN.out.at 14 _ rfl);(have n15:=TN.out.at 15 _ rfl);(have n16:=TN.out.at 16 _ rfl);(have n17:=TN.out.at 17 _ rfl);(have n18:=TN.out.at 18 _ rfl))
     | (refine wpList_load_mid rfl 28 (.tmp 1) rfl w.heap.size 0 rfl [Jj Jq x.kd,Jj Jq x.na,Jj Jq x.nb,Jj Jq x.K,Jj Jq x.S,Jj Jq x.P,Jj Jq x.O,.int .i8 x.Z,.int .i8 x.Y,.slice x.WA x.nW x.cW,.slice x.BA x.nB x.cB,.int .i32 x.m1,Jj Jq x.s1,.int .i8 x.z1,.int .i32 x.m2,Jj Jq x.s2,.int .i8 x.z2,.int .i8 x.lo,.int .i8 x.hi] _ (TN.out) Tryz.underlying28 rfl Zb5 ?_))
    go_ret
    have hz3:x.checkZ=2:=by rw [HZ.out,if_neg HK.out];simp
    exact⟨by rw [hz3];rfl,HB.out⟩
  | false =>
    go_upto_region 5 with (first
     | (go_at_call 62;(with_reducible refine (HMO.out _).mono ?_);rintro e w1 ⟨rfl,hb⟩;(replace TN:=hid (TN.out.below HS.out hb));(replace HB:=hid (HB.out.trans (hb.mono HB.out.size)));(replace HS:=hid (Nat.lt_of_lt_of_le HS.out hb.size));clear hb n0 n11 n12 n13 n14 n15 n16 n17 n18;(have n0:=TN.out.at 0 _ rfl);(have n11:=TN.out.at 11 _ rfl);(have n12:=TN.out.at 12 _ rfl);(have n13:=TN.out.at 13 _ rfl);(have n14:=TN.out.at 14 _ rfl);(have n15:=TN.out.at 15 _ rfl);(have n16:=TN.out.at 16 _ rfl);(have n17:=TN.out.at 17 _ rfl);(have n18:=TN.out.at 18 _ rfl))
     | (refine wpList_load_mid rfl 28 (.tmp 1) rfl w.heap.size 0 rfl [Jj Jq x.kd,Jj Jq x.na,Jj Jq x.nb,Jj Jq x.K,Jj Jq x.S,Jj Jq x.P,Jj Jq x.O,.int .i8 x.Z,.int .i8 x.Y,.slice x.WA x.nW x.cW,.slice x.BA x.nB x.cB,.int .i32 x.m1,Jj Jq x.s1,.int .i8 x.z1,.int .i32 x.m2,Jj Jq x.s2,.int .i8 x.z2,.int .i8 x.lo,.int .i8 x.hi] _ (TN.out) Tryz.underlying28 rfl Zb5 ?_))
    have HZ2:Hid (x.checkZ=if ((sb && !r1) || (x.kd == 6 && !r2))=true then 7 else if (sb && decide (x.hi < x.lo))=true then 2 else 0):=hid (by rw [HZ.out,if_neg HK.out,if_neg Zb7])
    clear HZ HK
    obtain⟨k6,hk6⟩:∃ b,(x.kd == 6)=b:=⟨_,rfl⟩
    obtain⟨lb,hlb⟩:∃ b,decide (x.hi < x.lo)=b:=⟨_,rfl⟩
    rw [hk6,hlb] at HZ2
    cases sb <;> cases r1 <;> cases k6 <;> cases r2 <;> cases lb
    all_goals
     go_wp2_with (first
      | (go_at_call 63;(with_reducible refine (HSC.out _).mono ?_);rintro e w1 ⟨rfl,rfl⟩)
      | (go_at_call 64;(with_reducible refine (HRA.out _).mono ?_);rintro e w1 ⟨rfl,hb⟩;(replace TN:=hid (TN.out.below HS.out hb));(replace HB:=hid (HB.out.trans (hb.mono HB.out.size)));(replace HS:=hid (Nat.lt_of_lt_of_le HS.out hb.size));clear hb n0 n11 n12 n13 n14 n15 n16 n17 n18;(have n0:=TN.out.at 0 _ rfl);(have n11:=TN.out.at 11 _ rfl);(have n12:=TN.out.at 12 _ rfl);(have n13:=TN.out.at 13 _ rfl);(have n14:=TN.out.at 14 _ rfl);(have n15:=TN.out.at 15 _ rfl);(have n16:=TN.out.at 16 _ rfl);(have n17:=TN.out.at 17 _ rfl);(have n18:=TN.out.at 18 _ rfl))
      | (go_at_call 64;(with_reducible refine (HRB.out _).mono ?_);rintro e w1 ⟨rfl,hb⟩;(replace TN:=hid (TN.out.below HS.out hb));(replace HB:=hid (HB.out.trans (hb.mono HB.out.size)));(replace HS:=hid (Nat.lt_of_lt_of_le HS.out hb.size));clear hb n0 n11 n12 n13 n14 n15 n16 n17 n18;(have n0:=TN.out.at 0 _ rfl);(have n11:=TN.out.at 11 _ rfl);(have n12:=TN.out.at 12 _ rfl);(have n13:=TN.out.at 13 _ rfl);(have n14:=TN.out.at 14 _ rfl);(have n15:=TN.out.at 15 _ rfl);(have n16:=TN.out.at 16 _ rfl);(have n17:=TN.out.at 17 _ rfl);(have n18:=TN.out.at 18 _ rfl)))
     go_ret
     exact⟨by rw [HZ2.out];rfl,HB.out⟩
end CKind
end
section
namespace CLower
open Go Go.ChangeShapes Go.WideShapes Go.ChangeAt Go.RowKit Go.Shelf Round
open Plain CSat CShape CTensor CConv
attribute [local go_sem] Oper.semAt_some
theorem still_slice {F:Fence} {P:Program} (d:Option Tmp) (T:TypeId) (x:Operand) (a b c:Option Operand) (t:TypeId) (p:String) (e:Array Edge) (g:Option (Nat × Bool)):Still F P { dst:=d,op:=.slice T x a b c,type:=t,pos:=p,after:=e,guard:=g } :=
 ⟨(fun c h=>by cases h),fun ρ w=>⟨fun f h=>by simp [Oper.about] at h,calm_value _ w⟩⟩
theorem still_builtin_len {F:Fence} {P:Program} (d:Option Tmp) (xs:Array Operand) (ts:Array TypeId) (t:TypeId) (p:String) (e:Array Edge) (g:Option (Nat × Bool)):Still F P { dst:=d,op:=.call { callee:=.builtin .len,args:=xs,argTypes:=ts },type:=t,pos:=p,after:=e,guard:=g } :=
 ⟨(fun c h => by cases h), fun ρ w => ⟨fun f h => by simp [Oper.about, resolve, go_sem] at h, by
   simp only [execOp,resolve,invoke,builtin,Sem.run_bind,Sem.run_pure,Result.andThen_ok]
   exact calm_then _⟩⟩
def Keep2 (Bs Bn:Nat) (A B:World):Prop:=B.cell? ⟨Bs,0,none⟩=A.cell? ⟨Bs,0,none⟩∧B.cell? ⟨Bn,0,none⟩=A.cell? ⟨Bn,0,none⟩
theorem Keep2.trans {Bs Bn:Nat} {A B C:World} (h:Keep2 Bs Bn A B) (k:Keep2 Bs Bn B C):Keep2 Bs Bn A C:=⟨k.1.trans h.1,k.2.trans h.2⟩
def piece (g d:Nat) (cap:Nat) (x:Nat):Array Value:=#[.slice (some ⟨g,x * d,none⟩) d d]
def first (k:Nat):List Nat:=List.range k
theorem zdb (k:Nat):first (k+1)=first k ++ [k]:=by simp [first,List.range_succ]
theorem first_len (k:Nat):(first k).length=k:=by simp [first]
theorem chunk_in (F:Fence) (n:Nat) (h8:F.fn 129) (hro:F.round=none) (hn:1≤n) (l Bs Bn g d r L cap:Nat) (hd:1≤d) (hdm:d≤1024) (hL:r * d=L) (hLm:L≤1000000) (hcap:L≤cap) (hcm:cap≤maxLen) (J Jx:List Nat→World→Prop)
  (hJd:∀ pre W,J pre W→J pre W.drew)
  (hY:∀ pre W,J pre W→pre.length < r→YieldAt F (n - 1) Tryz.prog l (piece g d cap pre.length) W fun e W' =>
    (e=.returned (.bool true)∧J (pre ++ [pre.length]) W'∧Keep2 Bs Bn W W')∨(e=.returned (.bool false)∧Jx (pre ++ [pre.length]) W'))
  (W:World) (hBs:W.cell? ⟨Bs,0,none⟩=some (.slice (some ⟨g,0,none⟩) L cap)) (hBn:W.cell? ⟨Bn,0,none⟩=some (Jj Jq d)) (h0:J [] W) :
  CallsIn F n Tryz.prog 129 #[.func (.yield l) #[] #[],.pointer (some ⟨Bs,0,none⟩),.pointer (some ⟨Bn,0,none⟩)] W fun e W'=>(∃ v,e=.returned v) ∧
   ((∃ ys,ys=first r∧J ys W')∨(∃ pre,(∃ k,k≤r∧pre=first k)∧Jx pre W')):=by
 refine callsIn_of_wp Tryz.func129 rfl h8 ?_ hro
 simp only [Tryz.ntmps129,List.size_toArray,List.length_cons,List.length_nil,Nat.reduceAdd,Nat.reduceSub,Array.replicate_succ,Array.replicate_zero,List.push_toArray,List.append_toArray,List.nil_append,List.cons_append]
 have HL:=hid hL
 clear hL
 gi_wp2
 gi_loopw [4] (fun i wr=>∃ k:Nat,k≤r∧i=Jj Jq ((k * d:Nat):Int)∧J (first k) wr∧Hid (Keep2 Bs Bn W wr))
  (fun i _=>L - (intOf i).toNat)
 case atStart=>exact⟨0,Nat.zero_le _,by simp,h0,hid ⟨rfl,rfl⟩⟩
 case round =>
  obtain⟨k,hk,rfl,hJs,hK⟩:=hrel
  have cs:=hK.out.1.trans hBs
  have cn:=hK.out.2.trans hBn
  obtain⟨q,hq⟩:∃ q,k * d=q:=⟨_,rfl⟩
  have hqL:q≤L:=by rw [← hq, ← HL.out];exact Nat.mul_le_mul_right _ hk
  rw [hq]
  by_cases hlt:k < r
  ·have hq1:q+d≤L:=by
    have:=Nat.mul_le_mul_right d (show k+1≤r by omega)
    rw [Nat.add_mul,Nat.one_mul,hq,HL.out] at this;exact this
   have hq2:(k+1) * d=q+d:=by rw [Nat.add_mul,Nat.one_mul,hq]
   have hqI:(q:Int) < (L:Int):=by omega
   have HQ:=hid hq
   have HQ2:=hid hq2
   have e1:IntKind.i64.wrap ((q:Int)+(d:Int))=((q+d:Nat):Int):=by rw [IntWalk.i64_in _ Zb3];omega
   have hYk:=hY _ wr.drew (hJd _ _ hJs) (by rw [first_len];exact hlt)
   rw [first_len] at hYk
   have HYK:=hid hYk
   clear hq hq2 hYk
   have hq0:(0:Int)≤(q:Int):=by omega
   have hqL2:(q:Int)≤(L:Int):=by omega
   have hqc:(q:Int)≤(cap:Int):=by omega
   have m1:¬ ((L:Int) - (q:Int)) < (d:Int):=by omega
   have m2:¬ (L - q) < d:=by omega
   have m3:¬ ((L - q:Nat):Int) < (d:Int):=by omega
   have m4:min (d:Int) ((L:Int) - (q:Int))=(d:Int):=by omega
   have m5:min d (L - q)=d:=by omega
   have m6:min (d:Int) ((L - q:Nat):Int)=(d:Int):=by omega
   gi_wp2
   refine region_round Zb5 (still_of_list (by simp only [List.forall_mem_cons];exact⟨still_load ..,still_load ..,still_move ..,still_slice ..,still_builtin_len ..,still_builtin_min ..,still_assign ..,fun _ h=>by cases h⟩)) ?_
   have cs2:wr.drew.cell? ⟨Bs,0,none⟩=some (.slice (some ⟨g,0,none⟩) L cap):=cs
   have cn2:wr.drew.cell? ⟨Bn,0,none⟩=some (Jj Jq d):=cn
   have HK2:Hid (Keep2 Bs Bn W wr.drew):=hK
   clear cs cn hJs hK
   generalize wr.drew=Wd at cs2 cn2 HK2 HYK ⊢
   refine Tk.z 2 rfl ?_
   refine Z5y ?_
   refine wpAny_ready (rs:=[0,1]) Zb5 Zb7 ?_
   refine Tk.d rfl (fun K hK=>?_) ?_
   ·go_simp
    refine hK _ _ ?_
    clear hK K
    refine Z5y ?_
    refine Tk.q 1 rfl (fun K hK=>?_)
    go_simp
    refine hK _ _ ?_
    clear hK K
    refine Z5y ?_
    refine Tk.z 3 rfl ?_
    refine Z5y ?_
    refine Tk.z 4 rfl ?_
    exact Z18
   refine Tk.d rfl (fun K hK=>?_) ?_
   ·go_simp
    refine hK _ _ ?_
    clear hK K
    refine Z5y ?_
    refine Tk.z 3 rfl ?_
    refine Z5y ?_
    refine Tk.z 4 rfl ?_
    refine Z5y ?_
    refine Tk.q 0 rfl (fun K hK=>?_)
    go_simp
    refine hK _ _ ?_
    clear hK K
    exact Z18
   exact fun j hj=>by cases hj
  ·obtain rfl:k=r:=by omega
   rw [HL.out] at hq
   subst hq
   gi_wp2
   go_end0
   exact⟨⟨_,rfl⟩,.inl ⟨_,rfl,hJs⟩⟩
end CLower
end
section
namespace CRun
open Plain CSat CShape CTensor CConv CKind
theorem csummed_ok (x:Nd) (H W C:Int) (A:Option Addr) (n c:Nat) (r q:Res) (h0:r.er=0) (w:World) (hS:∀ w1:World,Below w.heap.size w w1→Calls Tryz.prog 8 #[.agg x.val,.agg #[Jj Jq H,Jj Jq W,Jj Jq C,.slice A n c]] w1 (MAcc w1 r)) (hP:∀ (w1:World) (A2:Option Addr) (c2:Nat),Below w.heap.size w w1→Kit.Rd w1 w1.heap.size A2 (I32v r.xs)→Calls Tryz.prog 60 #[.agg #[Jj Jq r.X,Jj Jq r.Y,Jj Jq r.U,.slice A2 r.m c2],.agg x.val] w1 (MTen w1 q)):Calls Tryz.prog 20 #[.agg x.val,.agg #[Jj Jq H,Jj Jq W,Jj Jq C,.slice A n c]] w (MTen w q):=by
 have HC:=hid hS
 have HP:=hid hP
 clear hS hP
 have HE:=hid (ent1 x H W C A n c 32 w)
 go_enter Tryz.func20,Tryz.ntmps20
 go_upto_region 1 with fail
 obtain⟨W0,hW0,TN,HB,hz,TA,FR⟩:=HE.out
 rw [← hW0]
 clear hW0 HE
 obtain⟨k00,k01,k02,k03⟩:=TA.out
 obtain⟨⟨z0,z1,z2,z3⟩,f0,f1,f2,f3⟩:=FR.out
 have d1:(r.er != 0)=false:=by simpa using h0
 have d2:(r.er == 0)=true:=by simpa using h0
 go_wp2_with (first
  | (refine za4 rfl _ rfl w.heap.size x rfl TN.out ?_)
  | (go_at_call 8;(with_reducible refine (HC.out _ HB.out).mono ?_);rintro e1 w1 ⟨v,rfl,ho,hb⟩;(replace TN:=hid (TN.out.below Zb3 hb));(replace TA:=hid (TA.out.below Zb3 hb));(replace FR:=hid (FR.out.below hz hb));clear k00 k01 k02 k03 z0 z1 z2 z3 f0 f1 f2 f3;obtain⟨k00,k01,k02,k03⟩:=TA.out;obtain⟨⟨z0,z1,z2,z3⟩,f0,f1,f2,f3⟩:=FR.out;have hzo:=hz;(replace hz:w.heap.size+2 < w1.heap.size:=Nat.lt_of_lt_of_le hz hb.size);have HO1:=hid ho;obtain⟨A2,c2,rfl, -, -,hr2⟩:=Kit.zaj ho;have HR2:=hid hr2;(replace HB:=hid (HB.out.trans (hb.mono HB.out.size)));clear ho hb hzo hr2)
  | (refine za4 rfl _ rfl w.heap.size x rfl (TN.out.below (show w.heap.size < w1.heap.size by omega) ((Below.refl w1.heap.size w1).alloc (le_refl _) _)) ?_)
  | (go_at_call 60;(with_reducible refine (HP.out _ A2 c2 (HB.out.alloc HB.out.size _) ((HR2.out.alloc (le_refl _) _).more Zb7)).mono ?_);rintro e1 w2 ⟨v,rfl,ho,hb2⟩;have hb:Below w1.heap.size w1 w2:=((Below.refl _ _).alloc (le_refl _) _).trans (hb2.mono Zb7);have hzl:w.heap.size+2+1≤w1.heap.size:=hz;(replace TN:=hid (TN.out.below Zb3 hb));(replace TA:=hid (TA.out.below Zb3 hb));(replace FR:=hid (FR.out.below hz hb));clear k00 k01 k02 k03 z0 z1 z2 z3 f0 f1 f2 f3;obtain⟨k00,k01,k02,k03⟩:=TA.out;obtain⟨⟨z0,z1,z2,z3⟩,f0,f1,f2,f3⟩:=FR.out;have hzo:=hz;(replace hz:w.heap.size+2 < w2.heap.size:=Nat.lt_of_lt_of_le hz hb.size);have HO:=hid (Kit.zah ho (show w.heap.size+2+1≤_ from by simp;omega));have HZO:=hid (lt_succ_self (w.heap.size+2));obtain⟨A3,c3,rfl, -, -, -⟩:=Kit.zaj ho;(replace HB:=hid (HB.out.trans (hb.mono HB.out.size)));clear ho hb hb2 hzo))
 refine bodyPost_ret (Kit.zaa rfl _ _ (w.heap.size+2) 0 [Jj Jq q.X,Jj Jq q.Y,Jj Jq q.U,.slice A3 q.m c3] _ rfl (zba Zb6 Zb6 Zb6 Zb6) Tryz.underlying32 rfl Zb5) rfl ?_
 refine⟨_,rfl,Kit.zah (za0 HO.out HZO.out) Zb3,?_⟩
 exact Zi
end CRun
end
section
namespace CAct
open Plain CSat CFix CShape CTensor CConv
theorem all_of_c (A:Option Addr) (zs:List Int) (n c:Nat) (hn:zs.length=n) (hn6:n≤1000000) (hz:I32s zs) (x0 x1 x2:Value) (K S P O Z Y:Int) (WA BA:Option Addr) (nW cW nB cB:Nat) (m1 s1 z1 m2 s2 z2 lo hi:Int) (hnb:NBd Z Y m1 z1 m2 z2 lo hi) (hq:zau m1 s1=true) (w:World) (hr:Kit.Rd w w.heap.size A (I32v zs)) :
  Calls Tryz.prog 109 #[.slice A n c,.agg #[.int .i32 m1,Jj Jq s1,.int .i8 z1],.int .i8 lo,.int .i8 hi] w (fun e w'=>∃ v,e=.returned v∧w'.ownsRow w.heap.size 22 1 v n (I8s (zs.map fun a=>heldZ a m1 s1 z1 lo hi))∧Below w.heap.size w w'):=by
 obtain⟨-, -,⟨hm3,hm1⟩,⟨hz1,hz2⟩, -, -,⟨hl1,hl2⟩,⟨hh1,hh2⟩⟩:=hnb
 subst hn
 exact all_yes A zs c m1 s1 z1 lo hi hq hn6 hz hm3 hm1 hz1 hz2 hl1 hl2 hh1 hh2 _ rfl w hr
theorem aput_yes (H W C:Int) (A:Option Addr) (zs:List Int) (n c:Nat) (hn:zs.length=n) (hn6:n≤1000000) (hz:I32s zs) (x0 x1 x2:Value) (K S P O Z Y:Int) (WA BA:Option Addr) (nW cW nB cB:Nat) (m1 s1 z1 m2 s2 z2 lo hi:Int) (hnb:NBd Z Y m1 z1 m2 z2 lo hi) (h1:tensB H W C n=true) (hq:zau m1 s1=true) (w:World) (hr:Kit.Rd w w.heap.size A (I32v zs)) :
  Calls Tryz.prog 60 #[.agg #[Jj Jq H,Jj Jq W,Jj Jq C,.slice A n c],.agg #[x0,x1,x2,Jj Jq K,Jj Jq S,Jj Jq P,Jj Jq O,.int .i8 Z,.int .i8 Y,.slice WA nW cW,.slice BA nB cB,.int .i32 m1,Jj Jq s1,.int .i8 z1,.int .i32 m2,Jj Jq s2,.int .i8 z2,.int .i8 lo,.int .i8 hi]] w (MadeT w H W C n (zs.map fun a=>heldZ a m1 s1 z1 lo hi) (Jj Jq 0)):=by
 have HT1:=hid h1
 have HQ:=hid hq
 have HN:=hid hn
 have HZ:=hid hz
 have HNB:=hid hnb
 have HRA:=hid hr
 clear h1 hq hn hz hnb hr
 go_enter Tryz.func60,Tryz.ntmps60
 go_wp2_with (first
 | (go_at_call 108
    have hal:Below w.heap.size w (((w.alloc (.cells #[Jj Jq H,Jj Jq W,Jj Jq C,.slice A n c] 41)).alloc (.cells #[x0,x1,x2,Jj Jq K,Jj Jq S,Jj Jq P,Jj Jq O,.int .i8 Z,.int .i8 Y,.slice WA nW cW,.slice BA nB cB,.int .i32 m1,Jj Jq s1,.int .i8 z1,.int .i32 m2,Jj Jq s2,.int .i8 z2,.int .i8 lo,.int .i8 hi] 28)).alloc (.cells #[Jj Jq 0,Jj Jq 0,Jj Jq 0,.slice none 0 0] 32)):=(((Below.refl _ _).alloc Zb4 _).alloc Zb4 _).alloc Zb4 _
    refine (rsums_to H W C A n c true HT1.out _).mono ?_
    rintro e w1 ⟨rfl,hb⟩
    refine Z6m ?_;intro hh
    have qTA:=(zav H W C A n c 41) w
    try simp only [World.size_alloc] at qTA
    refine Z6p ?_;intro TA yTA
    clear qTA
    have qTN:=(zae.new x0 x1 x2 (.int .i8 Y) (.int .i32 m1) (Jj Jq s1) (.int .i8 z1) (.int .i32 m2) (Jj Jq s2) (.int .i8 z2) (.int .i8 lo) (.int .i8 hi) K S P O Z WA BA nW cW nB cB 28) (w.alloc (.cells #[Jj Jq H,Jj Jq W,Jj Jq C,.slice A n c] 41))
    try simp only [World.size_alloc] at qTN
    refine Z61 ?_;intro TN yTN
    clear qTN
    have qFR:=(zaw 32) ((w.alloc (.cells #[Jj Jq H,Jj Jq W,Jj Jq C,.slice A n c] 41)).alloc (.cells #[x0,x1,x2,Jj Jq K,Jj Jq S,Jj Jq P,Jj Jq O,.int .i8 Z,.int .i8 Y,.slice WA nW cW,.slice BA nB cB,.int .i32 m1,Jj Jq s1,.int .i8 z1,.int .i32 m2,Jj Jq s2,.int .i8 z2,.int .i8 lo,.int .i8 hi] 28))
    try simp only [World.size_alloc] at qFR
    refine Z6c ?_;intro FR yFR
    clear qFR
    replace HRA:=hid ((HRA.out.below hh).more hh.size)
    refine Z71 ?_;intro HBW
    obtain⟨tap0,tap1,tap2,tap3⟩:=TA.out
    refine Z6q ?_;intro n11 n12 n13
    clear hb hh hal)
 | (go_at_call 42
    refine Z72 ?_;intro hal
    refine (zb0 _ _ _ _).mono ?_
    rintro e w2 ⟨rfl,hb⟩
    refine Z6r ?_;intro hh
    refine Z78 ?_;try clear TA yTA;intro TA yTA
    refine Z64 ?_;try clear TN yTN FR yFR;intro TN yTN FR yFR
    replace HRA:=hid ((HRA.out.below hh).more hh.size)
    refine Z74 ?_;try clear HBW;intro HBW
    clear tap0 tap1 tap2 tap3 n11 n12 n13
    rw [HQ.out]
    obtain⟨tap0,tap1,tap2,tap3⟩:=TA.out
    refine Z6q ?_;intro n11 n12 n13
    clear hb hh hal))
 clear tap0 tap1 tap2 tap3 n11 n12 n13
 refine wp_region_held_drew (S:=fun w'=>BoxAt w.heap.size H W C A n c w'∧zae (w.heap.size+1) x0 x1 x2 (.int .i8 Y) (.int .i32 m1) (Jj Jq s1) (.int .i8 z1) (.int .i32 m2) (Jj Jq s2) (.int .i8 z2) (.int .i8 lo) (.int .i8 hi) K S P O Z WA BA nW cW nB cB w') Zb5 ⟨TA.out,TN.out⟩ (fun hHeld=>?_)
 refine Z8m ?_;try clear HBW HRA FR yFR TA TN;intro HBW HRA FR yFR TA TN
 generalize w2.drew=V1 at HBW HRA FR yFR TA TN hHeld ⊢
 refine Z8l ?_
 refine Z5y ?_
 refine Tk.y 1 (v:=?_) rfl ?_ ?_
 rotate_left
 ·exact Z42
 refine Z5y ?_
 refine Z8w ?_
 refine Z5y ?_
 refine Tk.y 3 (v:=?_) rfl ?_ ?_
 rotate_left
 ·exact Z42
 refine Z5y ?_
 refine Z9b ?_
 refine Z5y ?_
 refine Tk.y 5 (v:=?_) rfl ?_ ?_
 rotate_left
 ·exact Z56
 refine Z5y ?_
 refine Z9e ?_
 refine Z5y ?_
 refine Tk.y 7 (v:=?_) rfl ?_ ?_
 rotate_left
 ·intro wS hSw
  obtain⟨hq1,hq2⟩:=hSw
  have q17:=hq2.at 17 _ rfl;clear hq1 hq2
  exact Z0
 refine Z5y ?_
 refine Z9f ?_
 refine Z5y ?_
 refine Tk.y 9 (v:=?_) rfl ?_ ?_
 rotate_left
 ·intro wS hSw
  obtain⟨hq1,hq2⟩:=hSw
  have q18:=hq2.at 18 _ rfl;clear hq1 hq2
  exact Z0
 refine Z5y ?_
 refine Tk.s 10 rfl (fun Kq hK=>?_)
 go_simp
 go_at_call 109
 refine (all_of_c A zs n c HN.out hn6 HZ.out x0 x1 x2 K S P O Z Y WA BA nW cW nB cB m1 s1 z1 m2 s2 z2 lo hi HNB.out HQ.out V1 HRA.out).mono ?_
 exact Zp
end CAct
end
section
namespace CKind
open Plain CSat CShape CTensor CConv
theorem node_types:Tryz.prog.cellTypes Tryz.prog.depth 28=some [3,3,3,3,3,3,3,22,22,23,24,21,3,22,21,3,22,22,22]:=by kernel_rfl
theorem cell_int {P:Program} {w:World} {r:Reach} {b0:Nat} {t u:TypeId} {fs:Array Field} {cs:Array Value} {ts:List TypeId} (ht:P.underlying t=some (.struct fs)) (hts:P.cellTypes P.depth t=some ts) (hv:Value.okWide P w r b0 t (.agg cs))
  (i:Nat) (v:Value) (hi:cs[i]?=some v) (hu:ts[i % ts.length]?=some u) (k:IntKind) (hk:P.underlying u=some (.int k)):∃ n,v=.int k n∧k.min≤n∧n≤k.max:=by
 simp only [Value.okWide,ht] at hv
 obtain⟨cs',e,_,ts',hts',_,hr⟩:=hv
 cases e
 rw [hts] at hts'
 cases hts'
 obtain⟨u',hu',hc⟩:=hr i v hi
 rw [hu] at hu'
 cases hu'
 unfold Cell.okWide Cell.ok at hc
 rw [hk] at hc
 cases v <;> simp at hc
 obtain⟨rfl,h⟩:=hc
 exact⟨_,rfl,h.1,h.2⟩
def NdBd (kd na nb Y m1 s1 z1 m2 s2 z2 lo hi:Int):Prop:=(-9223372036854775808≤kd∧kd≤9223372036854775807)∧(-9223372036854775808≤na∧na≤9223372036854775807)∧(-9223372036854775808≤nb∧nb≤9223372036854775807)∧(-128≤Y∧Y≤127)∧(-2147483648≤m1∧m1≤2147483647)∧(-9223372036854775808≤s1∧s1≤9223372036854775807)∧(-128≤z1∧z1≤127)∧(-2147483648≤m2∧m2≤2147483647)∧(-9223372036854775808≤s2∧s2≤9223372036854775807)∧(-128≤z2∧z2≤127)∧(-128≤lo∧lo≤127)∧(-128≤hi∧hi≤127)
theorem nd_cells {w:World} {r:Reach} {b0:Nat} {a0 a1 a2 a3 a4 a5 a6 a7 a8 a9 a10 a11 a12 a13 a14 a15 a16 a17 a18:Value} (hv:Value.okWide Tryz.prog w r b0 28 (.agg #[a0,a1,a2,a3,a4,a5,a6,a7,a8,a9,a10,a11,a12,a13,a14,a15,a16,a17,a18])) :
  ∃ kd na nb Y m1 s1 z1 m2 s2 z2 lo hi:Int,(a0=Jj Jq kd∧a1=Jj Jq na∧a2=Jj Jq nb∧a8=.int .i8 Y∧a11=.int .i32 m1∧a12=Jj Jq s1∧a13=.int .i8 z1∧a14=.int .i32 m2∧a15=Jj Jq s2∧a16=.int .i8 z2∧a17=.int .i8 lo∧a18=.int .i8 hi)∧NdBd kd na nb Y m1 s1 z1 m2 s2 z2 lo hi:=by
 have h:=fun (i:Nat) (v:Value) hi u hu k hk=>cell_int (u:=u) Tryz.underlying28 node_types hv i v hi hu k hk
 obtain⟨kd,e0,l0,u0⟩:=h 0 a0 rfl _ rfl .i64 Tryz.underlying3
 obtain⟨na,e1,l1,u1⟩:=h 1 a1 rfl _ rfl .i64 Tryz.underlying3
 obtain⟨nb,e2,l2,u2⟩:=h 2 a2 rfl _ rfl .i64 Tryz.underlying3
 obtain⟨Y,e8,l8,u8⟩:=h 8 a8 rfl _ rfl .i8 Tryz.underlying22
 obtain⟨m1,e11,l11,u11⟩:=h 11 a11 rfl _ rfl .i32 Tryz.underlying21
 obtain⟨s1,e12,l12,u12⟩:=h 12 a12 rfl _ rfl .i64 Tryz.underlying3
 obtain⟨z1,e13,l13,u13⟩:=h 13 a13 rfl _ rfl .i8 Tryz.underlying22
 obtain⟨m2,e14,l14,u14⟩:=h 14 a14 rfl _ rfl .i32 Tryz.underlying21
 obtain⟨s2,e15,l15,u15⟩:=h 15 a15 rfl _ rfl .i64 Tryz.underlying3
 obtain⟨z2,e16,l16,u16⟩:=h 16 a16 rfl _ rfl .i8 Tryz.underlying22
 obtain⟨lo,e17,l17,u17⟩:=h 17 a17 rfl _ rfl .i8 Tryz.underlying22
 obtain⟨hi,e18,l18,u18⟩:=h 18 a18 rfl _ rfl .i8 Tryz.underlying22
 clear h hv
 simp only [IntKind.min,IntKind.max,IntKind.signed,IntKind.bits] at *
 refine⟨kd,na,nb,Y,m1,s1,z1,m2,s2,z2,lo,hi,⟨e0,e1,e2,e8,e11,e12,e13,e14,e15,e16,e17,e18⟩,?_⟩
 unfold NdBd
 simp at *
 omega
end CKind
end
end Go.Proofs.YtchpdhhpkljdhaaGreatDoor
