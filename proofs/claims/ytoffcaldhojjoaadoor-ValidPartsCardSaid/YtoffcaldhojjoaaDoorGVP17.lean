/- -/
import Derived.Test.YtoffcaldhojjoaaDoorGVP14
open Go.Lib (hid)
open Nat (le_refl lt_of_succ_lt lt_succ_self)
set_option linter.unusedVariables false
set_option linter.unusedSimpArgs false
set_option maxRecDepth 100000
set_option maxHeartbeats 16000000
namespace Go.Proofs.YtoffcaldhojjoaaDoor
namespace CConv
end CConv
namespace CFix
end CFix
namespace CSat
end CSat
namespace CShape
end CShape
namespace CTensor
end CTensor
open Go Go.ChangeShapes Go.WideShapes Go.ChangeAt Go.RowKit Go.Deep
section
namespace CKind
open Plain CSat CFix CShape CTensor CConv
theorem alike_own (x:Nd) (h:1≤x.kd∧x.kd≤9):x.alikeB (x.ownK x.kd) = !x.moreB:=by
 have hk:x.kd=1∨x.kd=2∨x.kd=3∨x.kd=4∨x.kd=5∨x.kd=6∨x.kd=7∨x.kd=8∨x.kd=9:=by omega
 clear h
 rw [Bool.eq_iff_iff]
 rcases hk with h | h | h | h | h | h | h | h | h
 all_goals
  simp [Nd.alikeB,nineB,Nd.ownK,Nd.moreB,sumsB,slidesB,za9,h]
  try omega
theorem own_small (x:Nd) (k:Int) (hx:x.Small):(x.ownK k).Small:=by
 obtain⟨h1,h2,h3,h4⟩:=hx
 refine⟨?_,?_,?_,?_⟩
 all_goals
  simp only [Nd.ownK]
  split <;> omega
theorem right_b (m s z:Int) (b:Bool) (h:zat m s=b) (w:World):Calls Tryd.prog 71 #[.agg #[.int .i32 m,.int .i64 s,.int .i8 z]] w fun e w'=>e=.returned (.bool b)∧Below w.heap.size w w':=by
 cases b
 ·exact isRight_no m s z h w
 ·exact isRight_yes m s z h w
theorem zaw (x:Nd) (hx:x.Small) (w:World) (hT:zae w):Calls Tryd.prog 52 #[.agg x.val] w fun e w'=>e=.returned (.int .i64 x.checkZ)∧Below w.heap.size w w':=by
 have TN:=hid (NdAt.new x 67 w)
 have HB:=hid ((Below.refl w.heap.size w).alloc (le_refl _) (.cells x.val 67))
 have HS:Hid (w.heap.size < (w.alloc (.cells x.val 67)).heap.size):=hid (by simp)
 have HT:Hid (zae (w.alloc (.cells x.val 67))):=hid (hT.grown HB.out)
 obtain⟨kb,hkb⟩:∃ b,knownB x.kd=b:=⟨_,rfl⟩
 obtain⟨mb,hmb⟩:∃ mb,x.moreB=mb:=⟨_,rfl⟩
 obtain⟨sb,hsb⟩:∃ sb,za9 x.kd=sb:=⟨_,rfl⟩
 obtain⟨r1,hr1⟩:∃ b,zat x.m1 x.s1=b:=⟨_,rfl⟩
 obtain⟨r2,hr2⟩:∃ b,zat x.m2 x.s2=b:=⟨_,rfl⟩
 have hkn:=fun (w:World) (h:zae w)=>known_to x.kd w h
 rw [hkb] at hkn
 have hsc:=fun (w:World)=>scaled_to x.kd w
 rw [hsb] at hsc
 have HKN:=hid hkn
 have HSC:=hid hsc
 have HRA:=hid (fun (w:World)=>right_b x.m1 x.s1 x.z1 r1 hr1 w)
 have HRB:=hid (fun (w:World)=>right_b x.m2 x.s2 x.z2 r2 hr2 w)
 have hz:x.checkZ=if kb=false then 6 else if mb=true then 2 else if ((sb && !r1) || (x.kd == 6 && !r2))=true then 7 else if (sb && decide (x.hi < x.lo))=true then 2 else 0:=by
  unfold Nd.checkZ;rw [hmb,hsb,hr1,hr2]
  by_cases h:x.kd < 1∨9 < x.kd
  ·have e:kb=false:=by rw [← hkb];exact decide_eq_false (by omega)
   rw [if_pos h,e];rfl
  ·have e:kb=true:=by rw [← hkb];exact decide_eq_true (by omega)
   rw [if_neg h,e];rfl
 have HZ:=hid hz
 have HOW:Hid (kb=true→∀ w,Calls Tryd.prog 69 #[.agg x.val] w fun e w'=>e=.returned (.agg (x.ownK x.kd).val)∧Below w.heap.size w w'):=hid (fun h w=>own_to x (by rw [← hkb] at h;simpa [knownB] using h) w)
 have HAL:Hid (kb=true→∀ w,Calls Tryd.prog 68 #[.agg x.val,.agg (x.ownK x.kd).val] w fun e w'=>e=.returned (.bool !mb)∧Below w.heap.size w w'):=hid (fun h w=>csame_to x _ hx (own_small x _ hx) _ (by rw [alike_own x (by rw [← hkb] at h;simpa [knownB] using h),hmb]) w)
 generalize x.ownK x.kd=y at *
 clear hkb hmb hsb hr1 hr2 hz hkn hsc hx hT
 go_enter Tryd.func52,Tryd.ntmps52
 go_upto_region 1 with fail
 generalize w.alloc (.cells x.val 67)=W0 at TN HB HS HT ⊢
 have n0:=TN.out.at 0 (.int .i64 x.kd) rfl
 have n11:=TN.out.at 11 (.int .i32 x.m1) rfl
 have n12:=TN.out.at 12 (.int .i64 x.s1) rfl
 have n13:=TN.out.at 13 (.int .i8 x.z1) rfl
 have n14:=TN.out.at 14 (.int .i32 x.m2) rfl
 have n15:=TN.out.at 15 (.int .i64 x.s2) rfl
 have n16:=TN.out.at 16 (.int .i8 x.z2) rfl
 have n17:=TN.out.at 17 (.int .i8 x.lo) rfl
 have n18:=TN.out.at 18 (.int .i8 x.hi) rfl
 cases kb with
 | false =>
   go_wp2_with (go_at_call 67;(with_reducible refine (HKN.out _ HT.out).mono ?_);rintro e w1 ⟨rfl,rfl⟩)
   go_ret
   exact⟨by rw [HZ.out];rfl,HB.out⟩
 | true =>
   go_upto_region 3 with (go_at_call 67;(with_reducible refine (HKN.out _ HT.out).mono ?_);rintro e w1 ⟨rfl,rfl⟩)
   refine wp_region_held_drew (S:=NdAt w.heap.size x) (by kernel_rfl) (TN.out.below HS.out (Below.refl _ _).drew) (fun hHeld=>?_)
   replace HB:=hid (HB.out.trans (Below.refl _ W0).drew)
   replace HS:Hid (w.heap.size < W0.drew.heap.size):=hid HS.out
   clear TN HT HKN n0 n11 n12 n13 n14 n15 n16 n17 n18
   generalize W0.drew=W1 at *
   clear W0
   refine Tk.t 0 (v:=.agg x.val) rfl (zar _ rfl (by rfl) _ x rfl (fun _ h=>h)) (by assumption) ?_
   try simp only [Tk.put]
   refine Tk.t 1 (v:=.agg x.val) rfl (zar _ rfl (by rfl) _ x rfl (fun _ h=>h)) (by assumption) ?_
   try simp only [Tk.put]
   refine Tk.s 2 rfl (fun Kq hK=>?_)
   go_simp
   go_at_call 69
   with_reducible refine (HOW.out trivial _).mono ?_
   rintro e w1 ⟨rfl,hb⟩
   replace HB:=hid (HB.out.trans (hb.mono HB.out.size))
   have hS2:=hHeld.below HS.out hb
   replace HS:=hid (Nat.lt_of_lt_of_le HS.out hb.size)
   clear hb hHeld
   refine hK.out _ _ hS2 (fun hHeld=>?_)
   clear hK Kq hS2
   try simp only [Tk.put]
   refine Tk.s 3 rfl (fun Kq hK=>?_)
   go_simp
   go_at_call 68
   with_reducible refine (HAL.out trivial _).mono ?_
   rintro e w1 ⟨rfl,hb⟩
   replace HB:=hid (HB.out.trans (hb.mono HB.out.size))
   have hS2:=hHeld.below HS.out hb
   replace HS:=hid (Nat.lt_of_lt_of_le HS.out hb.size)
   clear hb hHeld
   refine hK.out _ _ hS2 (fun hHeld=>?_)
   clear hK Kq hS2
   try simp only [Tk.put]
   refine Tk.x 4 rfl ?_
   try simp only [Tk.put]
   refine Tk.x 5 rfl ?_
   try simp only [Tk.put]
   refine wpAnyH_done (by kernel_rfl) ?_ _
   have TN:=hid hHeld
   clear hHeld HOW HAL
   have n0:=TN.out.at 0 (.int .i64 x.kd) rfl
   have n11:=TN.out.at 11 (.int .i32 x.m1) rfl
   have n12:=TN.out.at 12 (.int .i64 x.s1) rfl
   have n13:=TN.out.at 13 (.int .i8 x.z1) rfl
   have n14:=TN.out.at 14 (.int .i32 x.m2) rfl
   have n15:=TN.out.at 15 (.int .i64 x.s2) rfl
   have n16:=TN.out.at 16 (.int .i8 x.z2) rfl
   have n17:=TN.out.at 17 (.int .i8 x.lo) rfl
   have n18:=TN.out.at 18 (.int .i8 x.hi) rfl
   cases mb with
   | true =>
     go_wp2_with fail
     go_ret
     have hz3:x.checkZ=2:=by rw [HZ.out];simp
     exact⟨by rw [hz3];rfl,HB.out⟩
   | false =>
     have HZ2:Hid (x.checkZ=if ((sb && !r1) || (x.kd == 6 && !r2))=true then 7 else if (sb && decide (x.hi < x.lo))=true then 2 else 0):=hid (by rw [HZ.out];simp)
     clear HZ
     obtain⟨k6,hk6⟩:∃ b,(x.kd == 6)=b:=⟨_,rfl⟩
     obtain⟨lb,hlb⟩:∃ b,decide (x.hi < x.lo)=b:=⟨_,rfl⟩
     rw [hk6,hlb] at HZ2
     cases sb <;> cases r1 <;> cases k6 <;> cases r2 <;> cases lb
     all_goals
      go_wp2_with (first | (go_at_call 70;(with_reducible refine (HSC.out _).mono ?_);rintro e w1 ⟨rfl,rfl⟩) | (go_at_call 71;(with_reducible refine (HRA.out _).mono ?_);rintro e w1 ⟨rfl,hb⟩;(replace TN:=hid (TN.out.below HS.out hb));(replace HB:=hid (HB.out.trans (hb.mono HB.out.size)));(replace HS:=hid (Nat.lt_of_lt_of_le HS.out hb.size));clear hb n0 n11 n12 n13 n14 n15 n16 n17 n18;(have n0:=TN.out.at 0 (.int .i64 x.kd) rfl);(have n11:=TN.out.at 11 (.int .i32 x.m1) rfl);(have n12:=TN.out.at 12 (.int .i64 x.s1) rfl);(have n13:=TN.out.at 13 (.int .i8 x.z1) rfl);(have n14:=TN.out.at 14 (.int .i32 x.m2) rfl);(have n15:=TN.out.at 15 (.int .i64 x.s2) rfl);(have n16:=TN.out.at 16 (.int .i8 x.z2) rfl);(have n17:=TN.out.at 17 (.int .i8 x.lo) rfl);(have n18:=TN.out.at 18 (.int .i8 x.hi) rfl)) | (go_at_call 71;(with_reducible refine (HRB.out _).mono ?_);rintro e w1 ⟨rfl,hb⟩;(replace TN:=hid (TN.out.below HS.out hb));(replace HB:=hid (HB.out.trans (hb.mono HB.out.size)));(replace HS:=hid (Nat.lt_of_lt_of_le HS.out hb.size));clear hb n0 n11 n12 n13 n14 n15 n16 n17 n18;(have n0:=TN.out.at 0 (.int .i64 x.kd) rfl);(have n11:=TN.out.at 11 (.int .i32 x.m1) rfl);(have n12:=TN.out.at 12 (.int .i64 x.s1) rfl);(have n13:=TN.out.at 13 (.int .i8 x.z1) rfl);(have n14:=TN.out.at 14 (.int .i32 x.m2) rfl);(have n15:=TN.out.at 15 (.int .i64 x.s2) rfl);(have n16:=TN.out.at 16 (.int .i8 x.z2) rfl);(have n17:=TN.out.at 17 (.int .i8 x.lo) rfl);(have n18:=TN.out.at 18 (.int .i8 x.hi) rfl)))
      go_ret
      exact⟨by rw [HZ2.out];rfl,HB.out⟩
end CKind
end
end Go.Proofs.YtoffcaldhojjoaaDoor
