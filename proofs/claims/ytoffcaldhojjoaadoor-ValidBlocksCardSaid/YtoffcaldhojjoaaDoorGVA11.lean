/- -/
import Derived.Test.YtoffcaldhojjoaaDoorGVA9
import Derived.Test.YtoffcaldhojjoaaDoorGVA10
open Go.Lib (hid)
open Nat (le_refl lt_of_succ_lt lt_succ_self)
set_option linter.unusedVariables false
set_option linter.unusedSimpArgs false
set_option maxRecDepth 100000
set_option maxHeartbeats 16000000
namespace Go.Proofs.YtoffcaldhojjoaaDoor
namespace CConv
end CConv
namespace CFix
end CFix
namespace CSat
end CSat
namespace CTensor
end CTensor
open Go Go.ChangeShapes Go.WideShapes Go.ChangeAt Go.RowKit Go.Deep
section
namespace CKind
open Plain CSat CFix CShape CTensor CConv
def kname (k:Int):ByteArray :=
 if k=1 then ⟨#[99,111,110,118]⟩ else if k=2 then ⟨#[100,101,112,116,104]⟩ else if k=3 then ⟨#[100,101,110,115,101]⟩ else if k=4 then ⟨#[109,97,120,112,111,111,108]⟩ else if k=5 then ⟨#[97,118,103,112,111,111,108]⟩ else if k=6 then ⟨#[106,111,105,110]⟩ else if k=7 then ⟨#[97,99,116]⟩ else if k=8 then ⟨#[112,97,100]⟩ else if k=9 then ⟨#[102,108,97,116]⟩ else ⟨#[]⟩
theorem kname_no {k:Int} (h:k < 1∨9 < k):kname k=⟨#[]⟩:=by
 unfold kname
 simp only [show ¬ k=1 by omega,show ¬ k=2 by omega,show ¬ k=3 by omega,show ¬ k=4 by omega,show ¬ k=5 by omega,show ¬ k=6 by omega,show ¬ k=7 by omega,show ¬ k=8 by omega,show ¬ k=9 by omega,if_false]
theorem refName_to (k:Int) (w:World):Calls Tryd.prog 39 #[.int .i64 k] w fun e w'=>e=.returned (.string (kname k))∧Below w.heap.size w w':=by
 by_cases h:k < 0∨9 < k
 ·have HK:=hid (kname_no (k:=k) (by omega))
  rcases h with h | h
  all_goals
   go_enter Tryd.func39,Tryd.ntmps39
   go_wp2_with fail
   go_ret
   exact⟨by rw [HK.out];rfl,(Below.refl _ _).alloc (le_refl _) _⟩
 ·have:k=0∨k=1∨k=2∨k=3∨k=4∨k=5∨k=6∨k=7∨k=8∨k=9:=by omega
  clear h
  rcases this with rfl | rfl | rfl | rfl | rfl | rfl | rfl | rfl | rfl | rfl
  all_goals
   go_enter Tryd.func39,Tryd.ntmps39
   go_wp2_with fail
   go_ret
   exact⟨rfl,(Below.refl _ _).alloc (le_refl _) _⟩
def Nd.checkZ (x:Nd):Int :=
 if x.kd < 1∨9 < x.kd then 6 else if x.moreB=true then 2 else if ((zad x.kd && !zay x.m1 x.s1) || (x.kd == 6 && !zay x.m2 x.s2))=true then 7 else if (zad x.kd && decide (x.hi < x.lo))=true then 2 else 0
theorem refRight_b (m s z:Int) (b:Bool) (h:zay m s=b) (w:World):Calls Tryd.prog 42 #[.agg #[.int .i32 m,.int .i64 s,.int .i8 z]] w fun e w'=>e=.returned (.bool b)∧Below w.heap.size w w':=by
 cases b
 ·exact refRight_no m s z h w
 ·exact refRight_yes m s z h w
theorem kname_nil (k:Int):(kname k).toList.isEmpty=decide (k < 1∨9 < k):=by
 rw [ByteArray.toList_eq]
 by_cases h:k < 1∨9 < k
 ·rw [kname_no h];simp only [h,decide_true];decide
 ·have:k=1∨k=2∨k=3∨k=4∨k=5∨k=6∨k=7∨k=8∨k=9:=by omega
  rcases this with rfl | rfl | rfl | rfl | rfl | rfl | rfl | rfl | rfl <;> decide
def zbg (f:FuncId) (x:Nd):Prop:=∀ w:World,Calls Tryd.prog f #[.agg x.val] w fun e w'=>e=.returned (.int .i64 x.checkZ)∧Below w.heap.size w w'
theorem zar (x:Nd):zbg 23 x:=fun w=>by
 have TN:=hid (NdAt.new x 67 w)
 have HB:=hid ((Below.refl w.heap.size w).alloc (le_refl _) (.cells x.val 67))
 have hsz:w.heap.size < (w.alloc (.cells x.val 67)).heap.size:=by simp
 have hnn:=kname_nil x.kd
 obtain⟨nm,hnm⟩:∃ nm,kname x.kd=nm:=⟨_,rfl⟩
 obtain⟨mb,hmb⟩:∃ mb,x.moreB=mb:=⟨_,rfl⟩
 obtain⟨sb,hsb⟩:∃ sb,zad x.kd=sb:=⟨_,rfl⟩
 obtain⟨r1,hr1⟩:∃ b,zay x.m1 x.s1=b:=⟨_,rfl⟩
 obtain⟨r2,hr2⟩:∃ b,zay x.m2 x.s2=b:=⟨_,rfl⟩
 rw [hnm] at hnn
 have hna:=fun (w:World)=>refName_to x.kd w
 have hmo:=fun (w:World)=>refMore_to x w
 have hsc:=fun (w:World)=>zab x.kd w
 rw [hnm] at hna
 rw [hmb] at hmo
 rw [hsb] at hsc
 have HNA:=hid hna
 have HMO:=hid hmo
 have HSC:=hid hsc
 have HRA:=hid (fun (w:World)=>refRight_b x.m1 x.s1 x.z1 r1 hr1 w)
 have HRB:=hid (fun (w:World)=>refRight_b x.m2 x.s2 x.z2 r2 hr2 w)
 have HNN:=hid hnn
 have hz:x.checkZ=if x.kd < 1∨9 < x.kd then 6 else if mb=true then 2 else if ((sb && !r1) || (x.kd == 6 && !r2))=true then 7 else if (sb && decide (x.hi < x.lo))=true then 2 else 0:=by unfold Nd.checkZ;rw [hmb,hsb,hr1,hr2]
 have HZ:=hid hz
 clear hnn hnm hmb hsb hr1 hr2 hz hna hmo hsc
 unfold Nd.val at *
 go_enter Tryd.func23,Tryd.ntmps23
 go_upto_region 1 with fail
 generalize w.alloc (.cells #[.int .i64 x.kd,.int .i64 x.na,.int .i64 x.nb,.int .i64 x.K,.int .i64 x.S,.int .i64 x.P,.int .i64 x.O,.int .i8 x.Z,.int .i8 x.Y,.slice x.WA x.nW x.cW,.slice x.BA x.nB x.cB,.int .i32 x.m1,.int .i64 x.s1,.int .i8 x.z1,.int .i32 x.m2,.int .i64 x.s2,.int .i8 x.z2,.int .i8 x.lo,.int .i8 x.hi] 67)=W0 at TN HB hsz ⊢
 have HS:Hid (w.heap.size < W0.heap.size):=hid hsz
 clear hsz
 have n0:=TN.out.at 0 _ rfl;have n11:=TN.out.at 11 _ rfl;have n12:=TN.out.at 12 _ rfl;have n13:=TN.out.at 13 _ rfl;have n14:=TN.out.at 14 _ rfl;have n15:=TN.out.at 15 _ rfl;have n16:=TN.out.at 16 _ rfl;have n17:=TN.out.at 17 _ rfl;have n18:=TN.out.at 18 _ rfl
 by_cases hk:x.kd < 1∨9 < x.kd
 ·have hne:nm.toList.isEmpty=true:=by rw [HNN.out];simp [hk]
  have HK:=hid hk
  clear hk
  go_wp2_with (go_at_call 39;(with_reducible refine (HNA.out _).mono ?_);rintro e w1 ⟨rfl,hb⟩;(replace TN:=hid (TN.out.below HS.out hb));(replace HB:=hid (HB.out.trans (hb.mono HB.out.size)));(replace HS:=hid (Nat.lt_of_lt_of_le HS.out hb.size));clear hb n0 n11 n12 n13 n14 n15 n16 n17 n18;(have n0:=TN.out.at 0 _ rfl);(have n11:=TN.out.at 11 _ rfl);(have n12:=TN.out.at 12 _ rfl);(have n13:=TN.out.at 13 _ rfl);(have n14:=TN.out.at 14 _ rfl);(have n15:=TN.out.at 15 _ rfl);(have n16:=TN.out.at 16 _ rfl);(have n17:=TN.out.at 17 _ rfl);(have n18:=TN.out.at 18 _ rfl))
  go_ret
  exact⟨by rw [HZ.out,if_pos HK.out];rfl,HB.out⟩
 ·have hne:nm.toList.isEmpty=false:=by rw [HNN.out];simp [hk]
  have HK:=hid hk
  clear hk
  go_upto_region 3 with (go_at_call 39;(with_reducible refine (HNA.out _).mono ?_);rintro e w1 ⟨rfl,hb⟩;(replace TN:=hid (TN.out.below HS.out hb));(replace HB:=hid (HB.out.trans (hb.mono HB.out.size)));(replace HS:=hid (Nat.lt_of_lt_of_le HS.out hb.size));clear hb n0 n11 n12 n13 n14 n15 n16 n17 n18;(have n0:=TN.out.at 0 _ rfl);(have n11:=TN.out.at 11 _ rfl);(have n12:=TN.out.at 12 _ rfl);(have n13:=TN.out.at 13 _ rfl);(have n14:=TN.out.at 14 _ rfl);(have n15:=TN.out.at 15 _ rfl);(have n16:=TN.out.at 16 _ rfl);(have n17:=TN.out.at 17 _ rfl);(have n18:=TN.out.at 18 _ rfl))
  clear hne
  cases mb with
  | true =>
    go_wp2_with (first
     | (go_at_call 40;(with_reducible refine (HMO.out _).mono ?_);rintro e w1 ⟨rfl,hb⟩;(replace TN:=hid (TN.out.below HS.out hb));(replace HB:=hid (HB.out.trans (hb.mono HB.out.size)));(replace HS:=hid (Nat.lt_of_lt_of_le HS.out hb.size));clear hb n0 n11 n12 n13 n14 n15 n16 n17 n18;(have n0:=TN.out.at 0 _ rfl);(have n11:=TN.out.at 11 _ rfl);(have n12:=TN.out.at 12 _ rfl);(have n13:=TN.out.at 13 _ rfl);(have n14:=TN.out.at 14 _ rfl);(have n15:=TN.out.at 15 _ rfl);(have n16:=TN.out.at 16 _ rfl);(have n17:=TN.out.at 17 _ rfl);(have n18:=TN.out.at 18 _ rfl))
     | (refine wpList_load_mid rfl 67 (.tmp 1) rfl w.heap.size 0 rfl [.int .i64 x.kd,.int .i64 x.na,.int .i64 x.nb,.int .i64 x.K,.int .i64 x.S,.int .i64 x.P,.int .i64 x.O,.int .i8 x.Z,.int .i8 x.Y,.slice x.WA x.nW x.cW,.slice x.BA x.nB x.cB,.int .i32 x.m1,.int .i64 x.s1,.int .i8 x.z1,.int .i32 x.m2,.int .i64 x.s2,.int .i8 x.z2,.int .i8 x.lo,.int .i8 x.hi] _ (TN.out) Tryd.underlying67 rfl (by kernel_rfl) ?_))
    go_ret
    have hz3:x.checkZ=2:=by rw [HZ.out,if_neg HK.out];simp
    exact⟨by rw [hz3];rfl,HB.out⟩
  | false =>
    go_upto_region 5 with (first
     | (go_at_call 40;(with_reducible refine (HMO.out _).mono ?_);rintro e w1 ⟨rfl,hb⟩;(replace TN:=hid (TN.out.below HS.out hb));(replace HB:=hid (HB.out.trans (hb.mono HB.out.size)));(replace HS:=hid (Nat.lt_of_lt_of_le HS.out hb.size));clear hb n0 n11 n12 n13 n14 n15 n16 n17 n18;(have n0:=TN.out.at 0 _ rfl);(have n11:=TN.out.at 11 _ rfl);(have n12:=TN.out.at 12 _ rfl);(have n13:=TN.out.at 13 _ rfl);(have n14:=TN.out.at 14 _ rfl);(have n15:=TN.out.at 15 _ rfl);(have n16:=TN.out.at 16 _ rfl);(have n17:=TN.out.at 17 _ rfl);(have n18:=TN.out.at 18 _ rfl))
     | (refine wpList_load_mid rfl 67 (.tmp 1) rfl w.heap.size 0 rfl [.int .i64 x.kd,.int .i64 x.na,.int .i64 x.nb,.int .i64 x.K,.int .i64 x.S,.int .i64 x.P,.int .i64 x.O,.int .i8 x.Z,.int .i8 x.Y,.slice x.WA x.nW x.cW,.slice x.BA x.nB x.cB,.int .i32 x.m1,.int .i64 x.s1,.int .i8 x.z1,.int .i32 x.m2,.int .i64 x.s2,.int .i8 x.z2,.int .i8 x.lo,.int .i8 x.hi] _ (TN.out) Tryd.underlying67 rfl (by kernel_rfl) ?_))
    have HZ2:Hid (x.checkZ=if ((sb && !r1) || (x.kd == 6 && !r2))=true then 7 else if (sb && decide (x.hi < x.lo))=true then 2 else 0):=hid (by rw [HZ.out,if_neg HK.out,if_neg (by simp)])
    clear HZ HK
    obtain⟨k6,hk6⟩:∃ b,(x.kd == 6)=b:=⟨_,rfl⟩
    obtain⟨lb,hlb⟩:∃ b,decide (x.hi < x.lo)=b:=⟨_,rfl⟩
    rw [hk6,hlb] at HZ2
    cases sb <;> cases r1 <;> cases k6 <;> cases r2 <;> cases lb
    all_goals
     go_wp2_with (first
      | (go_at_call 41;(with_reducible refine (HSC.out _).mono ?_);rintro e w1 ⟨rfl,rfl⟩)
      | (go_at_call 42;(with_reducible refine (HRA.out _).mono ?_);rintro e w1 ⟨rfl,hb⟩;(replace TN:=hid (TN.out.below HS.out hb));(replace HB:=hid (HB.out.trans (hb.mono HB.out.size)));(replace HS:=hid (Nat.lt_of_lt_of_le HS.out hb.size));clear hb n0 n11 n12 n13 n14 n15 n16 n17 n18;(have n0:=TN.out.at 0 _ rfl);(have n11:=TN.out.at 11 _ rfl);(have n12:=TN.out.at 12 _ rfl);(have n13:=TN.out.at 13 _ rfl);(have n14:=TN.out.at 14 _ rfl);(have n15:=TN.out.at 15 _ rfl);(have n16:=TN.out.at 16 _ rfl);(have n17:=TN.out.at 17 _ rfl);(have n18:=TN.out.at 18 _ rfl))
      | (go_at_call 42;(with_reducible refine (HRB.out _).mono ?_);rintro e w1 ⟨rfl,hb⟩;(replace TN:=hid (TN.out.below HS.out hb));(replace HB:=hid (HB.out.trans (hb.mono HB.out.size)));(replace HS:=hid (Nat.lt_of_lt_of_le HS.out hb.size));clear hb n0 n11 n12 n13 n14 n15 n16 n17 n18;(have n0:=TN.out.at 0 _ rfl);(have n11:=TN.out.at 11 _ rfl);(have n12:=TN.out.at 12 _ rfl);(have n13:=TN.out.at 13 _ rfl);(have n14:=TN.out.at 14 _ rfl);(have n15:=TN.out.at 15 _ rfl);(have n16:=TN.out.at 16 _ rfl);(have n17:=TN.out.at 17 _ rfl);(have n18:=TN.out.at 18 _ rfl)))
     go_ret
     exact⟨by rw [HZ2.out];rfl,HB.out⟩
end CKind
end
section
namespace CConv
open Go Go.ChangeShapes Go.WideShapes Go.ChangeAt Go.RowKit
open Plain CSat CShape CTensor
def I32v (zs:List Int):List Value:=zs.map (.int .i32)
def zb2 (B:Nat) (H W C:Int) (wd:World):Prop :=
 wd.cell? ⟨B,0,none⟩=some (.int .i64 H)∧wd.cell? ⟨B,1,none⟩=some (.int .i64 W)∧wd.cell? ⟨B,2,none⟩=some (.int .i64 C)
theorem zb2.below {B B':Nat} {H W C:Int} {w w':World} (h:zb2 B H W C w) (hB:B < B') (hb:Below B' w w'):zb2 B H W C w' :=
 ⟨(hb.cell (p:=⟨B,0,none⟩) hB).trans h.1,(hb.cell (p:=⟨B,1,none⟩) hB).trans h.2.1,(hb.cell (p:=⟨B,2,none⟩) hB).trans h.2.2⟩
theorem zao (H W C:Int) (T:TypeId) (w:World):zb2 w.heap.size H W C (w.alloc (.cells #[.int .i64 H,.int .i64 W,.int .i64 C] T)):=⟨Kit.zal _ _ _ _,Kit.zal _ _ _ _,Kit.zal _ _ _ _⟩
end CConv
end
section
namespace CKind
open Plain CSat CShape CTensor CConv
def Nd.Small (x:Nd):Prop:=(-128≤x.Z∧x.Z≤127)∧(-128≤x.Y∧x.Y≤127)∧(-128≤x.lo∧x.lo≤127)∧(-128≤x.hi∧x.hi≤127)
def Nd.nine (x:Nd):Array Value:=#[.int .i64 x.nb,.int .i64 x.K,.int .i64 x.S,.int .i64 x.P,.int .i64 x.O,.int .i64 x.Z,.int .i64 x.Y,.int .i64 x.lo,.int .i64 x.hi]
theorem there_new9 (w:World) {cs:Array Value} (T:TypeId) {n:Nat} (h:cs.size=n):(w.alloc (.cells cs T)).there w.heap.size 0 n:=fun j hj=>by
 rw [Nat.zero_add]
 constructor
 ·rw [Kit.zal]
  simp [h,hj]
 ·unfold World.frozen?;rw [heap_alloc_new];rfl
theorem setCells_below {g B:Nat} (hg:B≤g):∀ (vs:List Value) (o:Nat) (w:World),Below B w (w.setCells g o vs)
 | [],_,w=>Below.refl _ _
 | v :: vs,o,w=>((Below.refl B w).setCell (p:=⟨g,o,none⟩) hg v).trans (setCells_below hg vs (o+1) _)
theorem numbers_to (x:Nd) (hx:x.Small) (w:World) :
  Calls Tryd.prog 84 #[.agg x.val] w fun e w'=>e=.returned (.agg x.nine)∧Below w.heap.size w w':=by
 obtain⟨⟨z0,z1⟩,⟨y0,y1⟩,⟨l0,l1⟩,⟨h0,h1⟩⟩:=hx
 have i7:IntKind.i64.wrap x.Z=x.Z:=IntWalk.i64_in _ (by omega)
 have i8:IntKind.i64.wrap x.Y=x.Y:=IntWalk.i64_in _ (by omega)
 have i17:IntKind.i64.wrap x.lo=x.lo:=IntWalk.i64_in _ (by omega)
 have i18:IntKind.i64.wrap x.hi=x.hi:=IntWalk.i64_in _ (by omega)
 clear z0 z1 y0 y1 l0 l1 h0 h1
 have TN:=hid (NdAt.new x 67 w)
 go_enter Tryd.func84,Tryd.ntmps84
 go_upto_region 1 with fail
 have hth:=there_new9 (w.alloc (.cells x.val 67)) (cs:=#[.int .i64 0,.int .i64 0,.int .i64 0,.int .i64 0,.int .i64 0,.int .i64 0,.int .i64 0,.int .i64 0,.int .i64 0]) 142 (n:=9) rfl
 rw [World.size_alloc] at hth
 have HT:=hid hth
 clear hth
 replace TN:=hid (TN.out.below (B:=w.heap.size+1) (lt_succ_self _) ((Below.refl _ _).alloc (by simp) (.cells #[.int .i64 0,.int .i64 0,.int .i64 0,.int .i64 0,.int .i64 0,.int .i64 0,.int .i64 0,.int .i64 0,.int .i64 0] 142)))
 have HB:=hid (((Below.refl w.heap.size w).alloc (le_refl _) (.cells x.val 67)).alloc (by simp) (.cells #[.int .i64 0,.int .i64 0,.int .i64 0,.int .i64 0,.int .i64 0,.int .i64 0,.int .i64 0,.int .i64 0,.int .i64 0] 142))
 generalize (w.alloc (.cells x.val 67)).alloc (.cells #[.int .i64 0,.int .i64 0,.int .i64 0,.int .i64 0,.int .i64 0,.int .i64 0,.int .i64 0,.int .i64 0,.int .i64 0] 142)=W0 at TN HT HB ⊢
 have n2:=TN.out.at 2 (.int .i64 x.nb) rfl
 have n3:=TN.out.at 3 (.int .i64 x.K) rfl
 have n4:=TN.out.at 4 (.int .i64 x.S) rfl
 have n5:=TN.out.at 5 (.int .i64 x.P) rfl
 have n6:=TN.out.at 6 (.int .i64 x.O) rfl
 have n7:=TN.out.at 7 (.int .i8 x.Z) rfl
 have n8:=TN.out.at 8 (.int .i8 x.Y) rfl
 have n17:=TN.out.at 17 (.int .i8 x.lo) rfl
 have n18:=TN.out.at 18 (.int .i8 x.hi) rfl
 go_wp2_with (refine wpList_store_mid rfl 142 (.tmp 2) (.tmp 25) rfl (w.heap.size+1) 0 x.nine rfl rfl HT.out (by kernel_rfl) (by simp [Nd.nine,Value.oneCell']) ?_;have HQ:=hid (World.rangeAt_setCells_same W0 (w.heap.size+1) 0 x.nine.toList HT.out);have HZ:Hid (Below w.heap.size W0 (W0.setCells (w.heap.size+1) 0 x.nine.toList)):=hid (setCells_below (Nat.le_succ _) _ _ _);generalize W0.setCells (w.heap.size+1) 0 x.nine.toList=W1 at HQ HZ ⊢)
 refine bodyPost_ret (Kit.za8 rfl _ _ (w.heap.size+1) 0 x.nine.toList _ rfl HQ.out Tryd.underlying142 rfl (by kernel_rfl)) rfl ?_
 exact⟨rfl,HB.out.trans HZ.out⟩
def nineB (x y:Nd):Bool:=x.nb == y.nb && x.K == y.K && x.S == y.S && x.P == y.P && x.O == y.O && x.Z == y.Z && x.Y == y.Y && x.lo == y.lo && x.hi == y.hi
theorem eqNine (x y:Nd) (b:Bool) (hb:nineB x y=b) (w:World):(Op.equalIn 10000 142 (.agg x.nine) (.agg y.nine)).run Tryd.prog w=.ok b w:=by
 subst hb
 have u3:=Tryd.underlying3
 have a3:=Tryd.isAgg3
 have z3:=Tryd.sizeOf3
 unfold Nd.nine nineB
 rw [show (10000:Nat)=9999+1 from rfl,Op.equalIn]
 simp only [Sem.run_bind,run_underlying Tryd.underlying142,Result.andThen_ok]
 simp only [Std.Legacy.Range.forIn_eq_forIn_range',Std.Legacy.Range.size,Nat.sub_zero,Nat.add_sub_cancel,Nat.div_one,List.range'_succ,List.range'_zero,List.forIn_cons,List.forIn_nil]
 go_simp
 by_cases h0:x.nb=y.nb
 rotate_left
 ·simp [h0]
 by_cases h1:x.K=y.K
 rotate_left
 ·simp [h0,h1]
 by_cases h2:x.S=y.S
 rotate_left
 ·simp [h0,h1,h2]
 by_cases h3:x.P=y.P
 rotate_left
 ·simp [h0,h1,h2,h3]
 by_cases h4:x.O=y.O
 rotate_left
 ·simp [h0,h1,h2,h3,h4]
 by_cases h5:x.Z=y.Z
 rotate_left
 ·simp [h0,h1,h2,h3,h4,h5]
 by_cases h6:x.Y=y.Y
 rotate_left
 ·simp [h0,h1,h2,h3,h4,h5,h6]
 by_cases h7:x.lo=y.lo
 rotate_left
 ·simp [h0,h1,h2,h3,h4,h5,h6,h7]
 by_cases h8:x.hi=y.hi
 rotate_left
 ·simp [h0,h1,h2,h3,h4,h5,h6,h7,h8]
 simp [h0,h1,h2,h3,h4,h5,h6,h7,h8]
theorem own_to (x:Nd) (h:1≤x.kd∧x.kd≤9) (w:World) :
  Calls Tryd.prog 69 #[.agg x.val] w fun e w'=>e=.returned (.agg (x.ownK x.kd).val)∧Below w.heap.size w w':=by
 have:x.kd=1∨x.kd=2∨x.kd=3∨x.kd=4∨x.kd=5∨x.kd=6∨x.kd=7∨x.kd=8∨x.kd=9:=by omega
 rcases this with h | h | h | h | h | h | h | h | h
 ·rw [h];exact own_1 x h w
 ·rw [h];exact own_2 x h w
 ·rw [h];exact own_3 x h w
 ·rw [h];exact own_4 x h w
 ·rw [h];exact own_5 x h w
 ·rw [h];exact own_6 x h w
 ·rw [h];exact own_7 x h w
 ·rw [h];exact own_8 x h w
 ·rw [h];exact own_9 x h w
end CKind
end
end Go.Proofs.YtoffcaldhojjoaaDoor
