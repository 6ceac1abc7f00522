/- -/
import Derived.Test.YtoffcaldhojjoaaGreatDoorGVU9
import Derived.Test.YtoffcaldhojjoaaGreatDoorGVU10
open Go.Lib (hid)
open Nat (le_refl lt_of_succ_lt lt_succ_self)
set_option linter.unusedVariables false
set_option linter.unusedSimpArgs false
set_option maxRecDepth 100000
set_option maxHeartbeats 16000000
namespace Go.Proofs.YtoffcaldhojjoaaGreatDoor
namespace CConv
end CConv
namespace CFix
end CFix
namespace CSat
end CSat
namespace CTensor
end CTensor
open Go Go.ChangeShapes Go.WideShapes Go.ChangeAt Go.RowKit Go.Deep
section
namespace CKind
open Plain CSat CFix CShape CTensor CConv
def kname (k:Int):ByteArray :=
 if k=1 then ⟨#[99,111,110,118]⟩ else if k=2 then ⟨#[100,101,112,116,104]⟩ else if k=3 then ⟨#[100,101,110,115,101]⟩ else if k=4 then ⟨#[109,97,120,112,111,111,108]⟩ else if k=5 then ⟨#[97,118,103,112,111,111,108]⟩ else if k=6 then ⟨#[106,111,105,110]⟩ else if k=7 then ⟨#[97,99,116]⟩ else if k=8 then ⟨#[112,97,100]⟩ else if k=9 then ⟨#[102,108,97,116]⟩ else ⟨#[]⟩
theorem kname_no {k:Int} (h:k < 1∨9 < k):kname k=⟨#[]⟩:=by
 unfold kname
 simp only [show ¬ k=1 by omega,show ¬ k=2 by omega,show ¬ k=3 by omega,show ¬ k=4 by omega,show ¬ k=5 by omega,show ¬ k=6 by omega,show ¬ k=7 by omega,show ¬ k=8 by omega,show ¬ k=9 by omega,if_false]
theorem refName_to (k:Int) (w:World):Calls Tryz.prog 33 #[.int .i64 k] w fun e w'=>e=.returned (.string (kname k))∧Below w.heap.size w w':=by
 by_cases h:k < 0∨9 < k
 ·have HK:=hid (kname_no (k:=k) (by omega))
  rcases h with h | h
  all_goals
   go_enter Tryz.func33,Tryz.ntmps33
   go_wp2_with fail
   go_ret
   exact⟨by rw [HK.out];rfl,(Below.refl _ _).alloc (le_refl _) _⟩
 ·have:k=0∨k=1∨k=2∨k=3∨k=4∨k=5∨k=6∨k=7∨k=8∨k=9:=by omega
  clear h
  rcases this with rfl | rfl | rfl | rfl | rfl | rfl | rfl | rfl | rfl | rfl
  all_goals
   go_enter Tryz.func33,Tryz.ntmps33
   go_wp2_with fail
   go_ret
   exact⟨rfl,(Below.refl _ _).alloc (le_refl _) _⟩
def Nd.checkZ (x:Nd):Int :=
 if x.kd < 1∨9 < x.kd then 6 else if x.moreB=true then 2 else if ((zad x.kd && !za0 x.m1 x.s1) || (x.kd == 6 && !za0 x.m2 x.s2))=true then 7 else if (zad x.kd && decide (x.hi < x.lo))=true then 2 else 0
theorem refRight_b (m s z:Int) (b:Bool) (h:za0 m s=b) (w:World):Calls Tryz.prog 36 #[.agg #[.int .i32 m,.int .i64 s,.int .i8 z]] w fun e w'=>e=.returned (.bool b)∧Below w.heap.size w w':=by
 cases b
 ·exact refRight_no m s z h w
 ·exact refRight_yes m s z h w
theorem kname_nil (k:Int):(kname k).toList.isEmpty=decide (k < 1∨9 < k):=by
 rw [ByteArray.toList_eq]
 by_cases h:k < 1∨9 < k
 ·rw [kname_no h];simp only [h,decide_true];decide
 ·have:k=1∨k=2∨k=3∨k=4∨k=5∨k=6∨k=7∨k=8∨k=9:=by omega
  rcases this with rfl | rfl | rfl | rfl | rfl | rfl | rfl | rfl | rfl <;> decide
def zbh (f:FuncId) (x:Nd):Prop:=∀ w:World,Calls Tryz.prog f #[.agg x.val] w fun e w'=>e=.returned (.int .i64 x.checkZ)∧Below w.heap.size w w'
theorem zar (x:Nd):zbh 22 x:=fun w=>by
 have TN:=hid (NdAt.new x 61 w)
 have HB:=hid ((Below.refl w.heap.size w).alloc (le_refl _) (.cells x.val 61))
 have hsz:w.heap.size < (w.alloc (.cells x.val 61)).heap.size:=by simp
 have hnn:=kname_nil x.kd
 obtain⟨nm,hnm⟩:∃ nm,kname x.kd=nm:=⟨_,rfl⟩
 obtain⟨mb,hmb⟩:∃ mb,x.moreB=mb:=⟨_,rfl⟩
 obtain⟨sb,hsb⟩:∃ sb,zad x.kd=sb:=⟨_,rfl⟩
 obtain⟨r1,hr1⟩:∃ b,za0 x.m1 x.s1=b:=⟨_,rfl⟩
 obtain⟨r2,hr2⟩:∃ b,za0 x.m2 x.s2=b:=⟨_,rfl⟩
 rw [hnm] at hnn
 have hna:=fun (w:World)=>refName_to x.kd w
 have hmo:=fun (w:World)=>refMore_to x w
 have hsc:=fun (w:World)=>zab x.kd w
 rw [hnm] at hna
 rw [hmb] at hmo
 rw [hsb] at hsc
 have HNA:=hid hna
 have HMO:=hid hmo
 have HSC:=hid hsc
 have HRA:=hid (fun (w:World)=>refRight_b x.m1 x.s1 x.z1 r1 hr1 w)
 have HRB:=hid (fun (w:World)=>refRight_b x.m2 x.s2 x.z2 r2 hr2 w)
 have HNN:=hid hnn
 have hz:x.checkZ=if x.kd < 1∨9 < x.kd then 6 else if mb=true then 2 else if ((sb && !r1) || (x.kd == 6 && !r2))=true then 7 else if (sb && decide (x.hi < x.lo))=true then 2 else 0:=by unfold Nd.checkZ;rw [hmb,hsb,hr1,hr2]
 have HZ:=hid hz
 clear hnn hnm hmb hsb hr1 hr2 hz hna hmo hsc
 unfold Nd.val at *
 go_enter Tryz.func22,Tryz.ntmps22
 go_upto_region 1 with fail
 generalize w.alloc (.cells #[.int .i64 x.kd,.int .i64 x.na,.int .i64 x.nb,.int .i64 x.K,.int .i64 x.S,.int .i64 x.P,.int .i64 x.O,.int .i8 x.Z,.int .i8 x.Y,.slice x.WA x.nW x.cW,.slice x.BA x.nB x.cB,.int .i32 x.m1,.int .i64 x.s1,.int .i8 x.z1,.int .i32 x.m2,.int .i64 x.s2,.int .i8 x.z2,.int .i8 x.lo,.int .i8 x.hi] 61)=W0 at TN HB hsz ⊢
 have HS:Hid (w.heap.size < W0.heap.size):=hid hsz
 clear hsz
 have n0:=TN.out.at 0 _ rfl;have n11:=TN.out.at 11 _ rfl;have n12:=TN.out.at 12 _ rfl;have n13:=TN.out.at 13 _ rfl;have n14:=TN.out.at 14 _ rfl;have n15:=TN.out.at 15 _ rfl;have n16:=TN.out.at 16 _ rfl;have n17:=TN.out.at 17 _ rfl;have n18:=TN.out.at 18 _ rfl
 by_cases hk:x.kd < 1∨9 < x.kd
 ·have hne:nm.toList.isEmpty=true:=by rw [HNN.out];simp [hk]
  have HK:=hid hk
  clear hk
  go_wp2_with (go_at_call 33;(with_reducible refine (HNA.out _).mono ?_);rintro e w1 ⟨rfl,hb⟩;(replace TN:=hid (TN.out.below HS.out hb));(replace HB:=hid (HB.out.trans (hb.mono HB.out.size)));(replace HS:=hid (Nat.lt_of_lt_of_le HS.out hb.size));clear hb n0 n11 n12 n13 n14 n15 n16 n17 n18;(have n0:=TN.out.at 0 _ rfl);(have n11:=TN.out.at 11 _ rfl);(have n12:=TN.out.at 12 _ rfl);(have n13:=TN.out.at 13 _ rfl);(have n14:=TN.out.at 14 _ rfl);(have n15:=TN.out.at 15 _ rfl);(have n16:=TN.out.at 16 _ rfl);(have n17:=TN.out.at 17 _ rfl);(have n18:=TN.out.at 18 _ rfl))
  go_ret
  exact⟨by rw [HZ.out,if_pos HK.out];rfl,HB.out⟩
 ·have hne:nm.toList.isEmpty=false:=by rw [HNN.out];simp [hk]
  have HK:=hid hk
  clear hk
  go_upto_region 3 with (go_at_call 33;(with_reducible refine (HNA.out _).mono ?_);rintro e w1 ⟨rfl,hb⟩;(replace TN:=hid (TN.out.below HS.out hb));(replace HB:=hid (HB.out.trans (hb.mono HB.out.size)));(replace HS:=hid (Nat.lt_of_lt_of_le HS.out hb.size));clear hb n0 n11 n12 n13 n14 n15 n16 n17 n18;(have n0:=TN.out.at 0 _ rfl);(have n11:=TN.out.at 11 _ rfl);(have n12:=TN.out.at 12 _ rfl);(have n13:=TN.out.at 13 _ rfl);(have n14:=TN.out.at 14 _ rfl);(have n15:=TN.out.at 15 _ rfl);(have n16:=TN.out.at 16 _ rfl);(have n17:=TN.out.at 17 _ rfl);(have n18:=TN.out.at 18 _ rfl))
  clear hne
  cases mb with
  | true =>
    go_wp2_with (first
     | (go_at_call 34;(with_reducible refine (HMO.out _).mono ?_);rintro e w1 ⟨rfl,hb⟩;(replace TN:=hid (TN.out.below HS.out hb));(replace HB:=hid (HB.out.trans (hb.mono HB.out.size)));(replace HS:=hid (Nat.lt_of_lt_of_le HS.out hb.size));clear hb n0 n11 n12 n13 n14 n15 n16 n17 n18;(have n0:=TN.out.at 0 _ rfl);(have n11:=TN.out.at 11 _ rfl);(have n12:=TN.out.at 12 _ rfl);(have n13:=TN.out.at 13 _ rfl);(have n14:=TN.out.at 14 _ rfl);(have n15:=TN.out.at 15 _ rfl);(have n16:=TN.out.at 16 _ rfl);(have n17:=TN.out.at 17 _ rfl);(have n18:=TN.out.at 18 _ rfl))
     | (refine wpList_load_mid rfl 61 (.tmp 1) rfl w.heap.size 0 rfl [.int .i64 x.kd,.int .i64 x.na,.int .i64 x.nb,.int .i64 x.K,.int .i64 x.S,.int .i64 x.P,.int .i64 x.O,.int .i8 x.Z,.int .i8 x.Y,.slice x.WA x.nW x.cW,.slice x.BA x.nB x.cB,.int .i32 x.m1,.int .i64 x.s1,.int .i8 x.z1,.int .i32 x.m2,.int .i64 x.s2,.int .i8 x.z2,.int .i8 x.lo,.int .i8 x.hi] _ (TN.out) Tryz.underlying61 rfl (by kernel_rfl) ?_))
    go_ret
    have hz3:x.checkZ=2:=by rw [HZ.out,if_neg HK.out];simp
    exact⟨by rw [hz3];rfl,HB.out⟩
  | false =>
    go_upto_region 5 with (first
     | (go_at_call 34;(with_reducible refine (HMO.out _).mono ?_);rintro e w1 ⟨rfl,hb⟩;(replace TN:=hid (TN.out.below HS.out hb));(replace HB:=hid (HB.out.trans (hb.mono HB.out.size)));(replace HS:=hid (Nat.lt_of_lt_of_le HS.out hb.size));clear hb n0 n11 n12 n13 n14 n15 n16 n17 n18;(have n0:=TN.out.at 0 _ rfl);(have n11:=TN.out.at 11 _ rfl);(have n12:=TN.out.at 12 _ rfl);(have n13:=TN.out.at 13 _ rfl);(have n14:=TN.out.at 14 _ rfl);(have n15:=TN.out.at 15 _ rfl);(have n16:=TN.out.at 16 _ rfl);(have n17:=TN.out.at 17 _ rfl);(have n18:=TN.out.at 18 _ rfl))
     | (refine wpList_load_mid rfl 61 (.tmp 1) rfl w.heap.size 0 rfl [.int .i64 x.kd,.int .i64 x.na,.int .i64 x.nb,.int .i64 x.K,.int .i64 x.S,.int .i64 x.P,.int .i64 x.O,.int .i8 x.Z,.int .i8 x.Y,.slice x.WA x.nW x.cW,.slice x.BA x.nB x.cB,.int .i32 x.m1,.int .i64 x.s1,.int .i8 x.z1,.int .i32 x.m2,.int .i64 x.s2,.int .i8 x.z2,.int .i8 x.lo,.int .i8 x.hi] _ (TN.out) Tryz.underlying61 rfl (by kernel_rfl) ?_))
    have HZ2:Hid (x.checkZ=if ((sb && !r1) || (x.kd == 6 && !r2))=true then 7 else if (sb && decide (x.hi < x.lo))=true then 2 else 0):=hid (by rw [HZ.out,if_neg HK.out,if_neg (by simp)])
    clear HZ HK
    obtain⟨k6,hk6⟩:∃ b,(x.kd == 6)=b:=⟨_,rfl⟩
    obtain⟨lb,hlb⟩:∃ b,decide (x.hi < x.lo)=b:=⟨_,rfl⟩
    rw [hk6,hlb] at HZ2
    cases sb <;> cases r1 <;> cases k6 <;> cases r2 <;> cases lb
    all_goals
     go_wp2_with (first
      | (go_at_call 35;(with_reducible refine (HSC.out _).mono ?_);rintro e w1 ⟨rfl,rfl⟩)
      | (go_at_call 36;(with_reducible refine (HRA.out _).mono ?_);rintro e w1 ⟨rfl,hb⟩;(replace TN:=hid (TN.out.below HS.out hb));(replace HB:=hid (HB.out.trans (hb.mono HB.out.size)));(replace HS:=hid (Nat.lt_of_lt_of_le HS.out hb.size));clear hb n0 n11 n12 n13 n14 n15 n16 n17 n18;(have n0:=TN.out.at 0 _ rfl);(have n11:=TN.out.at 11 _ rfl);(have n12:=TN.out.at 12 _ rfl);(have n13:=TN.out.at 13 _ rfl);(have n14:=TN.out.at 14 _ rfl);(have n15:=TN.out.at 15 _ rfl);(have n16:=TN.out.at 16 _ rfl);(have n17:=TN.out.at 17 _ rfl);(have n18:=TN.out.at 18 _ rfl))
      | (go_at_call 36;(with_reducible refine (HRB.out _).mono ?_);rintro e w1 ⟨rfl,hb⟩;(replace TN:=hid (TN.out.below HS.out hb));(replace HB:=hid (HB.out.trans (hb.mono HB.out.size)));(replace HS:=hid (Nat.lt_of_lt_of_le HS.out hb.size));clear hb n0 n11 n12 n13 n14 n15 n16 n17 n18;(have n0:=TN.out.at 0 _ rfl);(have n11:=TN.out.at 11 _ rfl);(have n12:=TN.out.at 12 _ rfl);(have n13:=TN.out.at 13 _ rfl);(have n14:=TN.out.at 14 _ rfl);(have n15:=TN.out.at 15 _ rfl);(have n16:=TN.out.at 16 _ rfl);(have n17:=TN.out.at 17 _ rfl);(have n18:=TN.out.at 18 _ rfl)))
     go_ret
     exact⟨by rw [HZ2.out];rfl,HB.out⟩
end CKind
end
section
namespace CConv
open Go Go.ChangeShapes Go.WideShapes Go.ChangeAt Go.RowKit
open Plain CSat CShape CTensor
def I32v (zs:List Int):List Value:=zs.map (.int .i32)
def zb4 (B:Nat) (H W C:Int) (wd:World):Prop :=
 wd.cell? ⟨B,0,none⟩=some (.int .i64 H)∧wd.cell? ⟨B,1,none⟩=some (.int .i64 W)∧wd.cell? ⟨B,2,none⟩=some (.int .i64 C)
theorem zb4.below {B B':Nat} {H W C:Int} {w w':World} (h:zb4 B H W C w) (hB:B < B') (hb:Below B' w w'):zb4 B H W C w' :=
 ⟨(hb.cell (p:=⟨B,0,none⟩) hB).trans h.1,(hb.cell (p:=⟨B,1,none⟩) hB).trans h.2.1,(hb.cell (p:=⟨B,2,none⟩) hB).trans h.2.2⟩
theorem zao (H W C:Int) (T:TypeId) (w:World):zb4 w.heap.size H W C (w.alloc (.cells #[.int .i64 H,.int .i64 W,.int .i64 C] T)):=⟨Kit.zal _ _ _ _,Kit.zal _ _ _ _,Kit.zal _ _ _ _⟩
end CConv
end
section
namespace CKind
open Plain CSat CFix CShape CTensor CConv
def zan (w:World):Prop:=∀ n:Nat,n < 10→w.cell? ⟨0,n,none⟩=some (.string (kname n))
theorem zan.size {w:World} (h:zan w):0 < w.heap.size:=by
 have h0:=h 0 (by decide)
 unfold World.cell? at h0
 rcases Nat.lt_or_ge 0 w.heap.size with hlt | hge
 ·exact hlt
 ·rw [show w.heap[(⟨0,0,none⟩:Addr).block]?=none from Array.getElem?_eq_none hge] at h0
  cases h0
theorem zan.below {w w':World} {n:Nat} (h:zan w) (hb:Below n w w') (hn:0 < n):zan w':=fun j hj=>(hb.cell (p:=⟨0,j,none⟩) hn).trans (h j hj)
theorem zan.grown {w w':World} (h:zan w) (hb:Below w.heap.size w w'):zan w':=h.below hb h.size
theorem name_to (k:Int) (w:World) (hT:zan w):Calls Tryz.prog 85 #[.int .i64 k] w fun e w'=>e=.returned (.string (kname k))∧w=w':=by
 by_cases h:k < 0∨9 < k
 ·have HK:=hid (kname_no (k:=k) (by omega))
  rcases h with h | h
  ·go_enter Tryz.func85,Tryz.ntmps85
   go_wp2_with fail
   go_ret
   exact⟨by rw [HK.out];rfl,rfl⟩
  ·have h2:¬ k < 0:=by omega
   have h3:(10:Int)≤k:=by omega
   go_enter Tryz.func85,Tryz.ntmps85
   go_wp2_with fail
   go_ret
   exact⟨by rw [HK.out];rfl,rfl⟩
 ·obtain⟨n,rfl⟩:∃ n:Nat,k=(n:Int):=⟨k.toNat,by omega⟩
  have h9:n < 10:=by omega
  have hc:=hT n h9
  obtain⟨s,hs⟩:∃ s,kname (n:Int)=s:=⟨_,rfl⟩
  rw [hs] at hc ⊢
  have h0:¬ (n:Int) < 0:=by omega
  have h10:¬ (10:Int)≤(n:Int):=by omega
  have h11:(n:Int) < 10:=by omega
  clear hs hT h
  go_enter Tryz.func85,Tryz.ntmps85
  go_wp2_with fail
  go_ret
  exact⟨rfl,rfl⟩
def knownB (k:Int):Bool:=decide (1≤k∧k≤9)
theorem kname_ne (k:Int):(kname k).toList.isEmpty = !knownB k:=by
 rw [ByteArray.toList_eq]
 by_cases h:k < 1∨9 < k
 ·rw [kname_no h,show knownB k=false from decide_eq_false (by omega)];decide
 ·have:k=1∨k=2∨k=3∨k=4∨k=5∨k=6∨k=7∨k=8∨k=9:=by omega
  rcases this with rfl | rfl | rfl | rfl | rfl | rfl | rfl | rfl | rfl <;> decide
theorem known_to (k:Int) (w:World) (hT:zan w):Calls Tryz.prog 70 #[.int .i64 k] w fun e w'=>e=.returned (.bool (knownB k))∧w=w':=by
 have HN:=hid (name_to k w hT)
 have hne:=kname_ne k
 clear hT
 obtain⟨s,hs⟩:∃ s,kname k=s:=⟨_,rfl⟩
 rw [hs] at HN hne
 clear hs
 cases hb:knownB k
 all_goals
  rw [hb] at hne
  simp only [Bool.not_false,Bool.not_true] at hne
  clear hb
  go_enter Tryz.func70,Tryz.ntmps70
  go_wp2_with (go_at_call 85;(with_reducible refine HN.out.mono ?_);rintro e w1 ⟨rfl,rfl⟩)
  go_ret
  exact⟨rfl,rfl⟩
theorem sums_to (k:Int) (w:World):Calls Tryz.prog 87 #[.int .i64 k] w fun e w'=>e=.returned (.bool (sumsB k))∧w=w':=by
 go_enter Tryz.func87,Tryz.ntmps87
 go_wp2_with fail
 all_goals go_ret
 all_goals exact⟨by simp_all [sumsB],rfl⟩
theorem scaled_to (k:Int) (w:World):Calls Tryz.prog 73 #[.int .i64 k] w fun e w'=>e=.returned (.bool (zad k))∧w=w':=by
 have HS:=hid (sums_to k)
 obtain⟨b,hb⟩:∃ b,sumsB k=b:=⟨_,rfl⟩
 have HZ:Hid (zad k=(b || k == 6 || k == 7)):=hid (by rw [← hb];rfl)
 rw [hb] at HS
 clear hb
 cases b
 all_goals
  go_enter Tryz.func73,Tryz.ntmps73
  go_wp2_with (go_at_call 87;(with_reducible refine (HS.out _).mono ?_);rintro e w1 ⟨rfl,rfl⟩)
  all_goals go_ret
  all_goals exact⟨by rw [HZ.out];simp_all,rfl⟩
end CKind
end
section
namespace CKind
open Plain CSat CShape CTensor CConv
theorem own_to (x:Nd) (h:1≤x.kd∧x.kd≤9) (w:World) :
  Calls Tryz.prog 72 #[.agg x.val] w fun e w'=>e=.returned (.agg (x.ownK x.kd).val)∧Below w.heap.size w w':=by
 have:x.kd=1∨x.kd=2∨x.kd=3∨x.kd=4∨x.kd=5∨x.kd=6∨x.kd=7∨x.kd=8∨x.kd=9:=by omega
 rcases this with h | h | h | h | h | h | h | h | h
 ·rw [h];exact own_1 x h w
 ·rw [h];exact own_2 x h w
 ·rw [h];exact own_3 x h w
 ·rw [h];exact own_4 x h w
 ·rw [h];exact own_5 x h w
 ·rw [h];exact own_6 x h w
 ·rw [h];exact own_7 x h w
 ·rw [h];exact own_8 x h w
 ·rw [h];exact own_9 x h w
end CKind
end
end Go.Proofs.YtoffcaldhojjoaaGreatDoor
