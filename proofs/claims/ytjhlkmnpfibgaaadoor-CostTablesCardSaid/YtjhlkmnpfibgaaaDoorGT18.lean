/- -/
import Derived.Test.YtjhlkmnpfibgaaaDoorGT17
open Go.Lib (hid)
open Nat (le_refl lt_of_succ_lt lt_succ_self)
set_option linter.unusedVariables false
set_option linter.unusedSimpArgs false
set_option maxRecDepth 100000
set_option maxHeartbeats 16000000
namespace Go.Proofs.YtjhlkmnpfibgaaaDoor
namespace CConv
end CConv
namespace CSat
end CSat
namespace CTensor
end CTensor
open Go Go.ChangeShapes Go.WideShapes Go.ChangeAt Go.RowKit Go.Deep
section
namespace CKind
open Plain CSat CFix CShape CTensor CConv
def Nd.checkZ (x:Nd):Int :=
 if x.kd < 1∨9 < x.kd then 6 else if x.moreB=true then 2 else if ((zac x.kd && !zbu x.m1 x.s1) || (x.kd == 6 && !zbu x.m2 x.s2))=true then 7 else if (zac x.kd && decide (x.hi < x.lo))=true then 2 else 0
theorem refRight_b (m s z:Int) (b:Bool) (h:zbu m s=b) (w:World):Calls Tryd.prog 52 #[.agg #[.int .i32 m,.int .i64 s,.int .i8 z]] w fun e w'=>e=.returned (.bool b)∧Below w.heap.size w w':=by
 cases b
 ·exact refRight_no m s z h w
 ·exact refRight_yes m s z h w
theorem kname_nil (k:Int):(kname k).toList.isEmpty=decide (k < 1∨9 < k):=by
 rw [ByteArray.toList_eq]
 by_cases h:k < 1∨9 < k
 ·rw [kname_no h];simp only [h,decide_true];decide
 ·have:k=1∨k=2∨k=3∨k=4∨k=5∨k=6∨k=7∨k=8∨k=9:=by omega
  rcases this with rfl | rfl | rfl | rfl | rfl | rfl | rfl | rfl | rfl <;> decide
def CheckIs (f:FuncId) (x:Nd):Prop:=∀ w:World,Calls Tryd.prog f #[.agg x.val] w fun e w'=>e=.returned (.int .i64 x.checkZ)∧Below w.heap.size w w'
theorem refCheck_to (x:Nd):CheckIs 31 x:=fun w=>by
 have TN:=hid (NdAt.new x 35 w)
 have HB:=hid ((Below.refl w.heap.size w).alloc (le_refl _) (.cells x.val 35))
 have hsz:w.heap.size < (w.alloc (.cells x.val 35)).heap.size:=by simp
 have hnn:=kname_nil x.kd
 obtain⟨nm,hnm⟩:∃ nm,kname x.kd=nm:=⟨_,rfl⟩
 obtain⟨mb,hmb⟩:∃ mb,x.moreB=mb:=⟨_,rfl⟩
 obtain⟨sb,hsb⟩:∃ sb,zac x.kd=sb:=⟨_,rfl⟩
 obtain⟨r1,hr1⟩:∃ b,zbu x.m1 x.s1=b:=⟨_,rfl⟩
 obtain⟨r2,hr2⟩:∃ b,zbu x.m2 x.s2=b:=⟨_,rfl⟩
 rw [hnm] at hnn
 have hna:=fun (w:World)=>refName_to x.kd w
 have hmo:=fun (w:World)=>refMore_to x w
 have hsc:=fun (w:World)=>zaa x.kd w
 rw [hnm] at hna
 rw [hmb] at hmo
 rw [hsb] at hsc
 have HNA:=hid hna
 have HMO:=hid hmo
 have HSC:=hid hsc
 have HRA:=hid (fun (w:World)=>refRight_b x.m1 x.s1 x.z1 r1 hr1 w)
 have HRB:=hid (fun (w:World)=>refRight_b x.m2 x.s2 x.z2 r2 hr2 w)
 have HNN:=hid hnn
 have hz:x.checkZ=if x.kd < 1∨9 < x.kd then 6 else if mb=true then 2 else if ((sb && !r1) || (x.kd == 6 && !r2))=true then 7 else if (sb && decide (x.hi < x.lo))=true then 2 else 0:=by unfold Nd.checkZ;rw [hmb,hsb,hr1,hr2]
 have HZ:=hid hz
 clear hnn hnm hmb hsb hr1 hr2 hz hna hmo hsc
 unfold Nd.val at *
 go_enter Tryd.func31,Tryd.ntmps31
 go_upto_region 1 with fail
 generalize w.alloc (.cells #[.int .i64 x.kd,.int .i64 x.na,.int .i64 x.nb,.int .i64 x.K,.int .i64 x.S,.int .i64 x.P,.int .i64 x.O,.int .i8 x.Z,.int .i8 x.Y,.slice x.WA x.nW x.cW,.slice x.BA x.nB x.cB,.int .i32 x.m1,.int .i64 x.s1,.int .i8 x.z1,.int .i32 x.m2,.int .i64 x.s2,.int .i8 x.z2,.int .i8 x.lo,.int .i8 x.hi] 35)=W0 at TN HB hsz ⊢
 have HS:Hid (w.heap.size < W0.heap.size):=hid hsz
 clear hsz
 have n0:=TN.out.at 0 _ rfl;have n11:=TN.out.at 11 _ rfl;have n12:=TN.out.at 12 _ rfl;have n13:=TN.out.at 13 _ rfl;have n14:=TN.out.at 14 _ rfl;have n15:=TN.out.at 15 _ rfl;have n16:=TN.out.at 16 _ rfl;have n17:=TN.out.at 17 _ rfl;have n18:=TN.out.at 18 _ rfl
 by_cases hk:x.kd < 1∨9 < x.kd
 ·have hne:nm.toList.isEmpty=true:=by rw [HNN.out];simp [hk]
  have HK:=hid hk
  clear hk
  go_wp2_with (go_at_call 49;(with_reducible refine (HNA.out _).mono ?_);rintro e w1 ⟨rfl,hb⟩;(replace TN:=hid (TN.out.below HS.out hb));(replace HB:=hid (HB.out.trans (hb.mono HB.out.size)));(replace HS:=hid (Nat.lt_of_lt_of_le HS.out hb.size));clear hb n0 n11 n12 n13 n14 n15 n16 n17 n18;(have n0:=TN.out.at 0 _ rfl);(have n11:=TN.out.at 11 _ rfl);(have n12:=TN.out.at 12 _ rfl);(have n13:=TN.out.at 13 _ rfl);(have n14:=TN.out.at 14 _ rfl);(have n15:=TN.out.at 15 _ rfl);(have n16:=TN.out.at 16 _ rfl);(have n17:=TN.out.at 17 _ rfl);(have n18:=TN.out.at 18 _ rfl))
  go_ret
  exact⟨by rw [HZ.out,if_pos HK.out];rfl,HB.out⟩
 ·have hne:nm.toList.isEmpty=false:=by rw [HNN.out];simp [hk]
  have HK:=hid hk
  clear hk
  go_upto_region 3 with (go_at_call 49;(with_reducible refine (HNA.out _).mono ?_);rintro e w1 ⟨rfl,hb⟩;(replace TN:=hid (TN.out.below HS.out hb));(replace HB:=hid (HB.out.trans (hb.mono HB.out.size)));(replace HS:=hid (Nat.lt_of_lt_of_le HS.out hb.size));clear hb n0 n11 n12 n13 n14 n15 n16 n17 n18;(have n0:=TN.out.at 0 _ rfl);(have n11:=TN.out.at 11 _ rfl);(have n12:=TN.out.at 12 _ rfl);(have n13:=TN.out.at 13 _ rfl);(have n14:=TN.out.at 14 _ rfl);(have n15:=TN.out.at 15 _ rfl);(have n16:=TN.out.at 16 _ rfl);(have n17:=TN.out.at 17 _ rfl);(have n18:=TN.out.at 18 _ rfl))
  clear hne
  cases mb with
  | true =>
    go_wp2_with (first
     | (go_at_call 50;(with_reducible refine (HMO.out _).mono ?_);rintro e w1 ⟨rfl,hb⟩;(replace TN:=hid (TN.out.below HS.out hb));(replace HB:=hid (HB.out.trans (hb.mono HB.out.size)));(replace HS:=hid (Nat.lt_of_lt_of_le HS.out hb.size));clear hb n0 n11 n12 n13 n14 n15 n16 n17 n18;(have n0:=TN.out.at 0 _ rfl);(have n11:=TN.out.at 11 _ rfl);(have n12:=TN.out.at 12 _ rfl);(have n13:=TN.out.at 13 _ rfl);(have n14:=TN.out.at 14 _ rfl);(have n15:=TN.out.at 15 _ rfl);(have n16:=TN.out.at 16 _ rfl);(have n17:=TN.out.at 17 _ rfl);(have n18:=TN.out.at 18 _ rfl))
     | (refine wpList_load_mid rfl 35 (.tmp 1) rfl w.heap.size 0 rfl [.int .i64 x.kd,.int .i64 x.na,.int .i64 x.nb,.int .i64 x.K,.int .i64 x.S,.int .i64 x.P,.int .i64 x.O,.int .i8 x.Z,.int .i8 x.Y,.slice x.WA x.nW x.cW,.slice x.BA x.nB x.cB,.int .i32 x.m1,.int .i64 x.s1,.int .i8 x.z1,.int .i32 x.m2,.int .i64 x.s2,.int .i8 x.z2,.int .i8 x.lo,.int .i8 x.hi] _ (TN.out) Tryd.underlying35 rfl (by kernel_rfl) ?_))
    go_ret
    have hz3:x.checkZ=2:=by rw [HZ.out,if_neg HK.out];simp
    exact⟨by rw [hz3];rfl,HB.out⟩
  | false =>
    go_upto_region 5 with (first
     | (go_at_call 50;(with_reducible refine (HMO.out _).mono ?_);rintro e w1 ⟨rfl,hb⟩;(replace TN:=hid (TN.out.below HS.out hb));(replace HB:=hid (HB.out.trans (hb.mono HB.out.size)));(replace HS:=hid (Nat.lt_of_lt_of_le HS.out hb.size));clear hb n0 n11 n12 n13 n14 n15 n16 n17 n18;(have n0:=TN.out.at 0 _ rfl);(have n11:=TN.out.at 11 _ rfl);(have n12:=TN.out.at 12 _ rfl);(have n13:=TN.out.at 13 _ rfl);(have n14:=TN.out.at 14 _ rfl);(have n15:=TN.out.at 15 _ rfl);(have n16:=TN.out.at 16 _ rfl);(have n17:=TN.out.at 17 _ rfl);(have n18:=TN.out.at 18 _ rfl))
     | (refine wpList_load_mid rfl 35 (.tmp 1) rfl w.heap.size 0 rfl [.int .i64 x.kd,.int .i64 x.na,.int .i64 x.nb,.int .i64 x.K,.int .i64 x.S,.int .i64 x.P,.int .i64 x.O,.int .i8 x.Z,.int .i8 x.Y,.slice x.WA x.nW x.cW,.slice x.BA x.nB x.cB,.int .i32 x.m1,.int .i64 x.s1,.int .i8 x.z1,.int .i32 x.m2,.int .i64 x.s2,.int .i8 x.z2,.int .i8 x.lo,.int .i8 x.hi] _ (TN.out) Tryd.underlying35 rfl (by kernel_rfl) ?_))
    have HZ2:Hid (x.checkZ=if ((sb && !r1) || (x.kd == 6 && !r2))=true then 7 else if (sb && decide (x.hi < x.lo))=true then 2 else 0):=hid (by rw [HZ.out,if_neg HK.out,if_neg (by simp)])
    clear HZ HK
    obtain⟨k6,hk6⟩:∃ b,(x.kd == 6)=b:=⟨_,rfl⟩
    obtain⟨lb,hlb⟩:∃ b,decide (x.hi < x.lo)=b:=⟨_,rfl⟩
    rw [hk6,hlb] at HZ2
    cases sb <;> cases r1 <;> cases k6 <;> cases r2 <;> cases lb
    all_goals
     go_wp2_with (first
      | (go_at_call 51;(with_reducible refine (HSC.out _).mono ?_);rintro e w1 ⟨rfl,rfl⟩)
      | (go_at_call 52;(with_reducible refine (HRA.out _).mono ?_);rintro e w1 ⟨rfl,hb⟩;(replace TN:=hid (TN.out.below HS.out hb));(replace HB:=hid (HB.out.trans (hb.mono HB.out.size)));(replace HS:=hid (Nat.lt_of_lt_of_le HS.out hb.size));clear hb n0 n11 n12 n13 n14 n15 n16 n17 n18;(have n0:=TN.out.at 0 _ rfl);(have n11:=TN.out.at 11 _ rfl);(have n12:=TN.out.at 12 _ rfl);(have n13:=TN.out.at 13 _ rfl);(have n14:=TN.out.at 14 _ rfl);(have n15:=TN.out.at 15 _ rfl);(have n16:=TN.out.at 16 _ rfl);(have n17:=TN.out.at 17 _ rfl);(have n18:=TN.out.at 18 _ rfl))
      | (go_at_call 52;(with_reducible refine (HRB.out _).mono ?_);rintro e w1 ⟨rfl,hb⟩;(replace TN:=hid (TN.out.below HS.out hb));(replace HB:=hid (HB.out.trans (hb.mono HB.out.size)));(replace HS:=hid (Nat.lt_of_lt_of_le HS.out hb.size));clear hb n0 n11 n12 n13 n14 n15 n16 n17 n18;(have n0:=TN.out.at 0 _ rfl);(have n11:=TN.out.at 11 _ rfl);(have n12:=TN.out.at 12 _ rfl);(have n13:=TN.out.at 13 _ rfl);(have n14:=TN.out.at 14 _ rfl);(have n15:=TN.out.at 15 _ rfl);(have n16:=TN.out.at 16 _ rfl);(have n17:=TN.out.at 17 _ rfl);(have n18:=TN.out.at 18 _ rfl)))
     go_ret
     exact⟨by rw [HZ2.out];rfl,HB.out⟩
end CKind
end
end Go.Proofs.YtjhlkmnpfibgaaaDoor
