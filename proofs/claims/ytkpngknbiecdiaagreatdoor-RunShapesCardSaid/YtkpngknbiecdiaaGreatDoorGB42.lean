/- Texts of this seat, one behind the other: KindShB, KindChecks, DenseOf. -/
import Derived.Deep.CutRange
import Derived.Deep.RegionHeld
import Derived.Test.YtkpngknbiecdiaaGreatDoorGB5
import Derived.Test.YtkpngknbiecdiaaGreatDoorGB8
import Derived.Test.YtkpngknbiecdiaaGreatDoorGB28
import Derived.Test.YtkpngknbiecdiaaGreatDoorGB31
import Derived.Test.YtkpngknbiecdiaaGreatDoorGB34
import Derived.Test.YtkpngknbiecdiaaGreatDoorGB37
import Derived.Test.YtkpngknbiecdiaaGreatDoorGB41
section
namespace Go.Proofs.YtkpngknbiecdiaaGreatDoor.CKind
open Go Go.ChangeShapes Go.WideShapes Go.ChangeAt Go.RowKit Go.Deep
open Plain CSat CFix CShape CTensor CConv
set_option linter.unusedVariables false
set_option linter.unusedSimpArgs false
set_option maxRecDepth 100000 in
set_option maxHeartbeats 8000000 in
theorem rks4 (H W C H2 W2 C2 na nb K S P O Z Y:Int) (WA:Option Addr) (nW cW:Nat) (BA:Option Addr) (nB cB:Nat) (m1 s1 z1 m2 s2 z2 lo hi:Int) (e u0 u1 u2:Int) (he:slideE H W C K S P C=e) (hv:slideS H W C K S P C=#[.int .i64 u0,.int .i64 u1,.int .i64 u2]) (w:World) :
  Calls Tryz.prog 14 #[.agg #[.int .i64 4,.int .i64 na,.int .i64 nb,.int .i64 K,.int .i64 S,.int .i64 P,.int .i64 O,.int .i8 Z,.int .i8 Y,.slice WA nW cW,.slice BA nB cB,.int .i32 m1,.int .i64 s1,.int .i8 z1,.int .i32 m2,.int .i64 s2,.int .i8 z2,.int .i8 lo,.int .i8 hi],.agg #[.int .i64 H,.int .i64 W,.int .i64 C],.agg #[.int .i64 H2,.int .i64 W2,.int .i64 C2]] w fun r w'=>r=.returned (.tuple #[.agg #[.int .i64 u0,.int .i64 u1,.int .i64 u2],.int .i64 e])∧Below w.heap.size w w':=by
 have HE:=Lib.hid he
 have HV:=Lib.hid hv
 clear he hv
 go_enter Tryz.func14,Tryz.ntmps14
 go_wp2_with (go_at_call 44;(with_reducible refine (refSlide_to H W C K S P C e _ HE.out HV.out _).mono ?_);rintro e1 w1 ⟨rfl,hb⟩;obtain⟨hcc,hff⟩:=Kit.bcell hb;have hz:w.heap.size+4≤w1.heap.size:=(by have:=hb.size;simp at this;omega);have hz3:w.heap.size+3 < w1.heap.size:=(by omega);have hz2:w.heap.size+2 < w1.heap.size:=(by omega);have hz1:w.heap.size+1 < w1.heap.size:=(by omega);have hz0:w.heap.size < w1.heap.size:=(by omega);have HB:=Lib.hid hb;clear hb)
 refine bodyPost_ret (Kit.results_ct rfl _ _ (w.heap.size+3) 0 [.int .i64 u0,.int .i64 u1,.int .i64 u2] _ rfl (Kit.range_3 (by go_cell) (by go_cell) (by go_cell)) Tryz.underlying30 rfl (by kernel_rfl)) rfl ?_
 have hB1:Below w.heap.size w w1:=Below.trans (((((Below.refl _ _).alloc (by first | exact Nat.le_refl _ | (simp;done) | (simp;omega) | omega) _).alloc (by first | exact Nat.le_refl _ | (simp;done) | (simp;omega) | omega) _).alloc (by first | exact Nat.le_refl _ | (simp;done) | (simp;omega) | omega) _).alloc (by first | exact Nat.le_refl _ | (simp;done) | (simp;omega) | omega) _) (HB.out.mono (by first | exact Nat.le_refl _ | (simp;done) | (simp;omega) | omega))
 exact⟨rfl,(((hB1.setCell (p:=⟨w.heap.size+3,0,none⟩) (Nat.le_add_right _ _) _).setCell (p:=⟨w.heap.size+3,1,none⟩) (Nat.le_add_right _ _) _).setCell (p:=⟨w.heap.size+3,2,none⟩) (Nat.le_add_right _ _) _)⟩
set_option maxRecDepth 100000 in
set_option maxHeartbeats 8000000 in
theorem rks5 (H W C H2 W2 C2 na nb K S P O Z Y:Int) (WA:Option Addr) (nW cW:Nat) (BA:Option Addr) (nB cB:Nat) (m1 s1 z1 m2 s2 z2 lo hi:Int) (e u0 u1 u2:Int) (he:slideE H W C K S P C=e) (hv:slideS H W C K S P C=#[.int .i64 u0,.int .i64 u1,.int .i64 u2]) (w:World) :
  Calls Tryz.prog 14 #[.agg #[.int .i64 5,.int .i64 na,.int .i64 nb,.int .i64 K,.int .i64 S,.int .i64 P,.int .i64 O,.int .i8 Z,.int .i8 Y,.slice WA nW cW,.slice BA nB cB,.int .i32 m1,.int .i64 s1,.int .i8 z1,.int .i32 m2,.int .i64 s2,.int .i8 z2,.int .i8 lo,.int .i8 hi],.agg #[.int .i64 H,.int .i64 W,.int .i64 C],.agg #[.int .i64 H2,.int .i64 W2,.int .i64 C2]] w fun r w'=>r=.returned (.tuple #[.agg #[.int .i64 u0,.int .i64 u1,.int .i64 u2],.int .i64 e])∧Below w.heap.size w w':=by
 have HE:=Lib.hid he
 have HV:=Lib.hid hv
 clear he hv
 go_enter Tryz.func14,Tryz.ntmps14
 go_wp2_with (go_at_call 44;(with_reducible refine (refSlide_to H W C K S P C e _ HE.out HV.out _).mono ?_);rintro e1 w1 ⟨rfl,hb⟩;obtain⟨hcc,hff⟩:=Kit.bcell hb;have hz:w.heap.size+4≤w1.heap.size:=(by have:=hb.size;simp at this;omega);have hz3:w.heap.size+3 < w1.heap.size:=(by omega);have hz2:w.heap.size+2 < w1.heap.size:=(by omega);have hz1:w.heap.size+1 < w1.heap.size:=(by omega);have hz0:w.heap.size < w1.heap.size:=(by omega);have HB:=Lib.hid hb;clear hb)
 refine bodyPost_ret (Kit.results_ct rfl _ _ (w.heap.size+3) 0 [.int .i64 u0,.int .i64 u1,.int .i64 u2] _ rfl (Kit.range_3 (by go_cell) (by go_cell) (by go_cell)) Tryz.underlying30 rfl (by kernel_rfl)) rfl ?_
 have hB1:Below w.heap.size w w1:=Below.trans (((((Below.refl _ _).alloc (by first | exact Nat.le_refl _ | (simp;done) | (simp;omega) | omega) _).alloc (by first | exact Nat.le_refl _ | (simp;done) | (simp;omega) | omega) _).alloc (by first | exact Nat.le_refl _ | (simp;done) | (simp;omega) | omega) _).alloc (by first | exact Nat.le_refl _ | (simp;done) | (simp;omega) | omega) _) (HB.out.mono (by first | exact Nat.le_refl _ | (simp;done) | (simp;omega) | omega))
 exact⟨rfl,(((hB1.setCell (p:=⟨w.heap.size+3,0,none⟩) (Nat.le_add_right _ _) _).setCell (p:=⟨w.heap.size+3,1,none⟩) (Nat.le_add_right _ _) _).setCell (p:=⟨w.heap.size+3,2,none⟩) (Nat.le_add_right _ _) _)⟩
set_option maxRecDepth 100000 in
set_option maxHeartbeats 8000000 in
theorem rks_lo (H W C H2 W2 C2 na nb K S P O Z Y:Int) (WA:Option Addr) (nW cW:Nat) (BA:Option Addr) (nB cB:Nat) (m1 s1 z1 m2 s2 z2 lo hi:Int) (kd:Int) (hk:kd < 1) (w:World) :
  Calls Tryz.prog 14 #[.agg #[.int .i64 kd,.int .i64 na,.int .i64 nb,.int .i64 K,.int .i64 S,.int .i64 P,.int .i64 O,.int .i8 Z,.int .i8 Y,.slice WA nW cW,.slice BA nB cB,.int .i32 m1,.int .i64 s1,.int .i8 z1,.int .i32 m2,.int .i64 s2,.int .i8 z2,.int .i8 lo,.int .i8 hi],.agg #[.int .i64 H,.int .i64 W,.int .i64 C],.agg #[.int .i64 H2,.int .i64 W2,.int .i64 C2]] w fun r w'=>r=.returned (.tuple #[.agg #[.int .i64 0,.int .i64 0,.int .i64 0],.int .i64 6])∧Below w.heap.size w w':=by
 have k1:(kd == 1)=false:=by simp;omega
 have k2:(kd == 2)=false:=by simp;omega
 have k3:(kd == 3)=false:=by simp;omega
 have k4:(kd == 4)=false:=by simp;omega
 have k5:(kd == 5)=false:=by simp;omega
 have kl:decide (kd < 1)=true:=by simpa using hk
 have HK:=Lib.hid hk
 clear hk
 go_enter Tryz.func14,Tryz.ntmps14
 go_wp2_with fail
 refine bodyPost_ret (Kit.results_ct rfl _ _ (w.heap.size+3) 0 [.int .i64 0,.int .i64 0,.int .i64 0] _ rfl (Kit.range_3 (by go_cell) (by go_cell) (by go_cell)) Tryz.underlying30 rfl (by kernel_rfl)) rfl ?_
 have hB1:Below w.heap.size w ((((w.alloc (.cells #[.int .i64 kd,.int .i64 na,.int .i64 nb,.int .i64 K,.int .i64 S,.int .i64 P,.int .i64 O,.int .i8 Z,.int .i8 Y,.slice WA nW cW,.slice BA nB cB,.int .i32 m1,.int .i64 s1,.int .i8 z1,.int .i32 m2,.int .i64 s2,.int .i8 z2,.int .i8 lo,.int .i8 hi] 28)).alloc (.cells #[.int .i64 H,.int .i64 W,.int .i64 C] 30)).alloc (.cells #[.int .i64 H2,.int .i64 W2,.int .i64 C2] 30)).alloc (.cells #[.int .i64 0,.int .i64 0,.int .i64 0] 30)):=((((Below.refl _ _).alloc (by first | exact Nat.le_refl _ | (simp;done) | (simp;omega) | omega) _).alloc (by first | exact Nat.le_refl _ | (simp;done) | (simp;omega) | omega) _).alloc (by first | exact Nat.le_refl _ | (simp;done) | (simp;omega) | omega) _).alloc (by first | exact Nat.le_refl _ | (simp;done) | (simp;omega) | omega) _
 exact⟨rfl,hB1⟩
set_option maxRecDepth 100000 in
set_option maxHeartbeats 8000000 in
theorem rks_hi (H W C H2 W2 C2 na nb K S P O Z Y:Int) (WA:Option Addr) (nW cW:Nat) (BA:Option Addr) (nB cB:Nat) (m1 s1 z1 m2 s2 z2 lo hi:Int) (kd:Int) (hk:9 < kd) (w:World) :
  Calls Tryz.prog 14 #[.agg #[.int .i64 kd,.int .i64 na,.int .i64 nb,.int .i64 K,.int .i64 S,.int .i64 P,.int .i64 O,.int .i8 Z,.int .i8 Y,.slice WA nW cW,.slice BA nB cB,.int .i32 m1,.int .i64 s1,.int .i8 z1,.int .i32 m2,.int .i64 s2,.int .i8 z2,.int .i8 lo,.int .i8 hi],.agg #[.int .i64 H,.int .i64 W,.int .i64 C],.agg #[.int .i64 H2,.int .i64 W2,.int .i64 C2]] w fun r w'=>r=.returned (.tuple #[.agg #[.int .i64 0,.int .i64 0,.int .i64 0],.int .i64 6])∧Below w.heap.size w w':=by
 have k1:(kd == 1)=false:=by simp;omega
 have k2:(kd == 2)=false:=by simp;omega
 have k3:(kd == 3)=false:=by simp;omega
 have k4:(kd == 4)=false:=by simp;omega
 have k5:(kd == 5)=false:=by simp;omega
 have kl:decide (kd < 1)=false:=by simp;omega
 have kh:decide (9 < kd)=true:=by simpa using hk
 have HK:=Lib.hid hk
 clear hk
 go_enter Tryz.func14,Tryz.ntmps14
 go_wp2_with fail
 refine bodyPost_ret (Kit.results_ct rfl _ _ (w.heap.size+3) 0 [.int .i64 0,.int .i64 0,.int .i64 0] _ rfl (Kit.range_3 (by go_cell) (by go_cell) (by go_cell)) Tryz.underlying30 rfl (by kernel_rfl)) rfl ?_
 have hB1:Below w.heap.size w ((((w.alloc (.cells #[.int .i64 kd,.int .i64 na,.int .i64 nb,.int .i64 K,.int .i64 S,.int .i64 P,.int .i64 O,.int .i8 Z,.int .i8 Y,.slice WA nW cW,.slice BA nB cB,.int .i32 m1,.int .i64 s1,.int .i8 z1,.int .i32 m2,.int .i64 s2,.int .i8 z2,.int .i8 lo,.int .i8 hi] 28)).alloc (.cells #[.int .i64 H,.int .i64 W,.int .i64 C] 30)).alloc (.cells #[.int .i64 H2,.int .i64 W2,.int .i64 C2] 30)).alloc (.cells #[.int .i64 0,.int .i64 0,.int .i64 0] 30)):=((((Below.refl _ _).alloc (by first | exact Nat.le_refl _ | (simp;done) | (simp;omega) | omega) _).alloc (by first | exact Nat.le_refl _ | (simp;done) | (simp;omega) | omega) _).alloc (by first | exact Nat.le_refl _ | (simp;done) | (simp;omega) | omega) _).alloc (by first | exact Nat.le_refl _ | (simp;done) | (simp;omega) | omega) _
 exact⟨rfl,hB1⟩
end Go.Proofs.YtkpngknbiecdiaaGreatDoor.CKind
end
section
namespace Go.Proofs.YtkpngknbiecdiaaGreatDoor.CKind
open Go Go.ChangeShapes Go.WideShapes Go.ChangeAt Go.RowKit Go.Deep
open Plain CSat CFix CShape CTensor CConv
set_option linter.unusedVariables false
set_option linter.unusedSimpArgs false
theorem alike_own (x:Nd) (h:1≤x.kd∧x.kd≤9):x.alikeB (x.ownK x.kd) = !x.moreB:=by
 have hk:x.kd=1∨x.kd=2∨x.kd=3∨x.kd=4∨x.kd=5∨x.kd=6∨x.kd=7∨x.kd=8∨x.kd=9:=by omega
 clear h
 rw [Bool.eq_iff_iff]
 rcases hk with h | h | h | h | h | h | h | h | h
 all_goals
  simp [Nd.alikeB,nineB,Nd.ownK,Nd.moreB,sumsB,slidesB,scaledB,h]
  try omega
theorem own_small (x:Nd) (k:Int) (hx:x.Small):(x.ownK k).Small:=by
 obtain⟨h1,h2,h3,h4⟩:=hx
 refine⟨?_,?_,?_,?_⟩
 all_goals
  simp only [Nd.ownK]
  split <;> omega
theorem right_b (m s z:Int) (b:Bool) (h:rightB m s=b) (w:World):Calls Tryz.prog 50 #[.agg #[.int .i32 m,.int .i64 s,.int .i8 z]] w fun e w'=>e=.returned (.bool b)∧Below w.heap.size w w':=by
 cases b
 ·exact isRight_no m s z h w
 ·exact isRight_yes m s z h w
set_option maxRecDepth 100000 in
set_option maxHeartbeats 16000000 in
theorem check_to (x:Nd) (hx:x.Small) (w:World) (hT:NamesIn w):Calls Tryz.prog 16 #[.agg x.val] w fun e w'=>e=.returned (.int .i64 x.checkZ)∧Below w.heap.size w w':=by
 have TN:=Lib.hid (NdAt.new x 28 w)
 have HB:=Lib.hid ((Below.refl w.heap.size w).alloc (Nat.le_refl _) (.cells x.val 28))
 have HS:Hid (w.heap.size < (w.alloc (.cells x.val 28)).heap.size):=Lib.hid (by simp)
 have HT:Hid (NamesIn (w.alloc (.cells x.val 28))):=Lib.hid (hT.grown HB.out)
 obtain⟨kb,hkb⟩:∃ b,knownB x.kd=b:=⟨_,rfl⟩
 obtain⟨mb,hmb⟩:∃ mb,x.moreB=mb:=⟨_,rfl⟩
 obtain⟨sb,hsb⟩:∃ sb,scaledB x.kd=sb:=⟨_,rfl⟩
 obtain⟨r1,hr1⟩:∃ b,rightB x.m1 x.s1=b:=⟨_,rfl⟩
 obtain⟨r2,hr2⟩:∃ b,rightB x.m2 x.s2=b:=⟨_,rfl⟩
 have hkn:=fun (w:World) (h:NamesIn w)=>known_to x.kd w h
 rw [hkb] at hkn
 have hsc:=fun (w:World)=>scaled_to x.kd w
 rw [hsb] at hsc
 have HKN:=Lib.hid hkn
 have HSC:=Lib.hid hsc
 have HRA:=Lib.hid (fun (w:World)=>right_b x.m1 x.s1 x.z1 r1 hr1 w)
 have HRB:=Lib.hid (fun (w:World)=>right_b x.m2 x.s2 x.z2 r2 hr2 w)
 have hz:x.checkZ=if kb=false then 6 else if mb=true then 2 else if ((sb && !r1) || (x.kd == 6 && !r2))=true then 7 else if (sb && decide (x.hi < x.lo))=true then 2 else 0:=by
  unfold Nd.checkZ;rw [hmb,hsb,hr1,hr2]
  by_cases h:x.kd < 1∨9 < x.kd
  ·have e:kb=false:=by rw [← hkb];exact decide_eq_false (by omega)
   rw [if_pos h,e];rfl
  ·have e:kb=true:=by rw [← hkb];exact decide_eq_true (by omega)
   rw [if_neg h,e];rfl
 have HZ:=Lib.hid hz
 have HOW:Hid (kb=true→∀ w,Calls Tryz.prog 48 #[.agg x.val] w fun e w'=>e=.returned (.agg (x.ownK x.kd).val)∧Below w.heap.size w w'):=Lib.hid (fun h w=>own_to x (by rw [← hkb] at h;simpa [knownB] using h) w)
 have HAL:Hid (kb=true→∀ w,Calls Tryz.prog 47 #[.agg x.val,.agg (x.ownK x.kd).val] w fun e w'=>e=.returned (.bool !mb)∧Below w.heap.size w w'):=Lib.hid (fun h w=>csame_to x _ hx (own_small x _ hx) _ (by rw [alike_own x (by rw [← hkb] at h;simpa [knownB] using h),hmb]) w)
 generalize x.ownK x.kd=y at *
 clear hkb hmb hsb hr1 hr2 hz hkn hsc hx hT
 go_enter Tryz.func16,Tryz.ntmps16
 go_upto_region 1 with fail
 generalize w.alloc (.cells x.val 28)=W0 at TN HB HS HT ⊢
 have n0:=TN.out.at 0 (.int .i64 x.kd) rfl
 have n11:=TN.out.at 11 (.int .i32 x.m1) rfl
 have n12:=TN.out.at 12 (.int .i64 x.s1) rfl
 have n13:=TN.out.at 13 (.int .i8 x.z1) rfl
 have n14:=TN.out.at 14 (.int .i32 x.m2) rfl
 have n15:=TN.out.at 15 (.int .i64 x.s2) rfl
 have n16:=TN.out.at 16 (.int .i8 x.z2) rfl
 have n17:=TN.out.at 17 (.int .i8 x.lo) rfl
 have n18:=TN.out.at 18 (.int .i8 x.hi) rfl
 cases kb with
 | false =>
   go_wp2_with (go_at_call 46;(with_reducible refine (HKN.out _ HT.out).mono ?_);rintro e w1 ⟨rfl,rfl⟩)
   go_ret
   exact⟨by rw [HZ.out];rfl,HB.out⟩
 | true =>
   go_upto_region 3 with (go_at_call 46;(with_reducible refine (HKN.out _ HT.out).mono ?_);rintro e w1 ⟨rfl,rfl⟩)
   refine wp_region_held_drew (S:=NdAt w.heap.size x) (by kernel_rfl) (TN.out.below HS.out (Below.refl _ _).drew) (fun hHeld=>?_)
   replace HB:=Lib.hid (HB.out.trans (Below.refl _ W0).drew)
   replace HS:Hid (w.heap.size < W0.drew.heap.size):=Lib.hid HS.out
   clear TN HT HKN n0 n11 n12 n13 n14 n15 n16 n17 n18
   generalize W0.drew=W1 at *
   clear W0
   refine Tk.t 0 (v:=.agg x.val) rfl (nd_load_at _ rfl (by rfl) _ x rfl (fun _ h=>h)) (by assumption) ?_
   try simp only [Tk.put]
   refine Tk.t 1 (v:=.agg x.val) rfl (nd_load_at _ rfl (by rfl) _ x rfl (fun _ h=>h)) (by assumption) ?_
   try simp only [Tk.put]
   refine Tk.s 2 rfl (fun Kq hK=>?_)
   go_simp
   go_at_call 48
   with_reducible refine (HOW.out trivial _).mono ?_
   rintro e w1 ⟨rfl,hb⟩
   replace HB:=Lib.hid (HB.out.trans (hb.mono HB.out.size))
   have hS2:=hHeld.below HS.out hb
   replace HS:=Lib.hid (Nat.lt_of_lt_of_le HS.out hb.size)
   clear hb hHeld
   refine hK.out _ _ hS2 (fun hHeld=>?_)
   clear hK Kq hS2
   try simp only [Tk.put]
   refine Tk.s 3 rfl (fun Kq hK=>?_)
   go_simp
   go_at_call 47
   with_reducible refine (HAL.out trivial _).mono ?_
   rintro e w1 ⟨rfl,hb⟩
   replace HB:=Lib.hid (HB.out.trans (hb.mono HB.out.size))
   have hS2:=hHeld.below HS.out hb
   replace HS:=Lib.hid (Nat.lt_of_lt_of_le HS.out hb.size)
   clear hb hHeld
   refine hK.out _ _ hS2 (fun hHeld=>?_)
   clear hK Kq hS2
   try simp only [Tk.put]
   refine Tk.x 4 rfl ?_
   try simp only [Tk.put]
   refine Tk.x 5 rfl ?_
   try simp only [Tk.put]
   refine wpAnyH_done (by kernel_rfl) ?_ _
   have TN:=Lib.hid hHeld
   clear hHeld HOW HAL
   have n0:=TN.out.at 0 (.int .i64 x.kd) rfl
   have n11:=TN.out.at 11 (.int .i32 x.m1) rfl
   have n12:=TN.out.at 12 (.int .i64 x.s1) rfl
   have n13:=TN.out.at 13 (.int .i8 x.z1) rfl
   have n14:=TN.out.at 14 (.int .i32 x.m2) rfl
   have n15:=TN.out.at 15 (.int .i64 x.s2) rfl
   have n16:=TN.out.at 16 (.int .i8 x.z2) rfl
   have n17:=TN.out.at 17 (.int .i8 x.lo) rfl
   have n18:=TN.out.at 18 (.int .i8 x.hi) rfl
   cases mb with
   | true =>
     go_wp2_with fail
     go_ret
     have hz3:x.checkZ=2:=by rw [HZ.out];simp
     exact⟨by rw [hz3];rfl,HB.out⟩
   | false =>
     have HZ2:Hid (x.checkZ=if ((sb && !r1) || (x.kd == 6 && !r2))=true then 7 else if (sb && decide (x.hi < x.lo))=true then 2 else 0):=Lib.hid (by rw [HZ.out];simp)
     clear HZ
     obtain⟨k6,hk6⟩:∃ b,(x.kd == 6)=b:=⟨_,rfl⟩
     obtain⟨lb,hlb⟩:∃ b,decide (x.hi < x.lo)=b:=⟨_,rfl⟩
     rw [hk6,hlb] at HZ2
     cases sb <;> cases r1 <;> cases k6 <;> cases r2 <;> cases lb
     all_goals
      go_wp2_with (first | (go_at_call 49;(with_reducible refine (HSC.out _).mono ?_);rintro e w1 ⟨rfl,rfl⟩) | (go_at_call 50;(with_reducible refine (HRA.out _).mono ?_);rintro e w1 ⟨rfl,hb⟩;(replace TN:=Lib.hid (TN.out.below HS.out hb));(replace HB:=Lib.hid (HB.out.trans (hb.mono HB.out.size)));(replace HS:=Lib.hid (Nat.lt_of_lt_of_le HS.out hb.size));clear hb n0 n11 n12 n13 n14 n15 n16 n17 n18;(have n0:=TN.out.at 0 (.int .i64 x.kd) rfl);(have n11:=TN.out.at 11 (.int .i32 x.m1) rfl);(have n12:=TN.out.at 12 (.int .i64 x.s1) rfl);(have n13:=TN.out.at 13 (.int .i8 x.z1) rfl);(have n14:=TN.out.at 14 (.int .i32 x.m2) rfl);(have n15:=TN.out.at 15 (.int .i64 x.s2) rfl);(have n16:=TN.out.at 16 (.int .i8 x.z2) rfl);(have n17:=TN.out.at 17 (.int .i8 x.lo) rfl);(have n18:=TN.out.at 18 (.int .i8 x.hi) rfl)) | (go_at_call 50;(with_reducible refine (HRB.out _).mono ?_);rintro e w1 ⟨rfl,hb⟩;(replace TN:=Lib.hid (TN.out.below HS.out hb));(replace HB:=Lib.hid (HB.out.trans (hb.mono HB.out.size)));(replace HS:=Lib.hid (Nat.lt_of_lt_of_le HS.out hb.size));clear hb n0 n11 n12 n13 n14 n15 n16 n17 n18;(have n0:=TN.out.at 0 (.int .i64 x.kd) rfl);(have n11:=TN.out.at 11 (.int .i32 x.m1) rfl);(have n12:=TN.out.at 12 (.int .i64 x.s1) rfl);(have n13:=TN.out.at 13 (.int .i8 x.z1) rfl);(have n14:=TN.out.at 14 (.int .i32 x.m2) rfl);(have n15:=TN.out.at 15 (.int .i64 x.s2) rfl);(have n16:=TN.out.at 16 (.int .i8 x.z2) rfl);(have n17:=TN.out.at 17 (.int .i8 x.lo) rfl);(have n18:=TN.out.at 18 (.int .i8 x.hi) rfl)))
      go_ret
      exact⟨by rw [HZ2.out];rfl,HB.out⟩
end Go.Proofs.YtkpngknbiecdiaaGreatDoor.CKind
end
section
namespace Go.Proofs.YtkpngknbiecdiaaGreatDoor.CDense
open Go Go.ChangeShapes Go.WideShapes Go.ChangeAt Go.RowKit
open Plain CSat CShape CTensor CConv
set_option linter.unusedVariables false
theorem denseE_ok {H W C O:Int} {nW nB:Nat} (h:denseE H W C O nW nB=0):shapeB H W C=true∧shapeB 1 1 O=true∧(nW:Int)=O * elemsZ H W C∧nW≤16384∧(nB:Int)=O:=by
 unfold denseE at h
 by_cases h1:shapeB H W C=true∧shapeB 1 1 O=true
 ·rw [if_pos h1] at h
  by_cases h2:(nW:Int)=O * elemsZ H W C∧nW≤16384∧(nB:Int)=O
  ·exact⟨h1.1,h1.2,h2⟩
  ·rw [if_neg h2] at h;omega
 ·rw [if_neg h1] at h;omega
theorem own_set9 {w:World} {base g:Nat} {e:TypeId} {size n:Nat} {v:Value} {xs:List Value} {x y z u:Value} (h:w.ownsRow base e size v n xs) (hg:g < base):((((w.setCell ⟨g,0,none⟩ x).setCell ⟨g,1,none⟩ y).setCell ⟨g,2,none⟩ z).setCell ⟨g,3,none⟩ u).ownsRow base e size v n xs :=
 own_set (own_set (own_set (own_set h _ _ hg) _ _ hg) _ _ hg) _ _ hg
set_option maxHeartbeats 1000000 in
theorem dof_bad (H W C:Int) (A:Option Addr) (n c:Nat) (x0 x1 x2 x8 x11 x12 x13 x14 x15 x16 x17 x18:Value) (K S P O Z:Int) (WA BA:Option Addr) (nW cW nB cB:Nat) (ht:tensB H W C n=false) (w:World) :
  Calls Tryz.prog 36 #[.agg #[.int .i64 H,.int .i64 W,.int .i64 C,.slice A n c],.agg #[x0,x1,x2,.int .i64 K,.int .i64 S,.int .i64 P,.int .i64 O,.int .i8 Z,x8,.slice WA nW cW,.slice BA nB cB,x11,x12,x13,x14,x15,x16,x17,x18]] w (MadeA w 0 0 0 0 [] (.int .i64 5)):=by
 have HT:=Lib.hid ht
 clear ht
 go_enter Tryz.func36,Tryz.ntmps36
 go_wp2_with (go_at_call 17;(refine (CTensor.right_to H W C A n c false HT.out _).mono ?_);(rintro e w1 ⟨rfl,hb⟩;obtain⟨hcc,hff⟩:=Kit.bcell hb;have hz:w.heap.size+3≤w1.heap.size:=(by have:=hb.size;simp at this;omega);have hz2:w.heap.size+2 < w1.heap.size:=(by omega);have HB:=Lib.hid hb;clear hb))
 refine bodyPost_ret (Kit.results_ct rfl _ _ (w.heap.size+2) 0 [.int .i64 0,.int .i64 0,.int .i64 0,.slice none 0 0] _ rfl (range_4 (by go_cell) (by go_cell) (by go_cell) (by go_cell)) Tryz.underlying41 rfl (by kernel_rfl)) rfl ?_
 have hB1:Below w.heap.size w w1:=Below.trans ((((Below.refl _ _).alloc (Nat.le_refl _) _).alloc (by simp) _).alloc (by simp;omega) _) (HB.out.mono (by first | omega | (simp;done) | (simp;omega)))
 exact⟨_,rfl,World.ownsRow_nil _ _ _ _,(((hB1.setCell (p:=⟨w.heap.size+2,0,none⟩) (by simp) _).setCell (p:=⟨w.heap.size+2,1,none⟩) (by simp) _).setCell (p:=⟨w.heap.size+2,2,none⟩) (by simp) _).setCell (p:=⟨w.heap.size+2,3,none⟩) (by simp) _⟩
set_option maxHeartbeats 2000000 in
theorem dof_err (H W C:Int) (A:Option Addr) (n c:Nat) (x0 x1 x2 x8 x11 x12 x13 x14 x15 x16 x17 x18:Value) (K S P O Z:Int) (WA BA:Option Addr) (nW cW nB cB:Nat) (ht:tensB H W C n=true) (er:Int) (he:denseE H W C O nW nB=er) (h0:er≠0) (w:World) :
  Calls Tryz.prog 36 #[.agg #[.int .i64 H,.int .i64 W,.int .i64 C,.slice A n c],.agg #[x0,x1,x2,.int .i64 K,.int .i64 S,.int .i64 P,.int .i64 O,.int .i8 Z,x8,.slice WA nW cW,.slice BA nB cB,x11,x12,x13,x14,x15,x16,x17,x18]] w (MadeA w 0 0 0 0 [] (.int .i64 er)):=by
 have hS:denseS H W C O nW nB=#[.int .i64 0,.int .i64 0,.int .i64 0]:=by unfold denseS;rw [he,if_neg h0]
 have HT:=Lib.hid ht
 have HE:=Lib.hid he
 have HS:=Lib.hid hS
 have h0b:(er != 0)=true:=by simpa using h0
 have h0c:(er == 0)=false:=by simpa using h0
 clear ht he hS
 go_enter Tryz.func36,Tryz.ntmps36
 go_wp2_with fail
 go_at_call 17
 have hal:Below w.heap.size w (((w.alloc (.cells #[.int .i64 H,.int .i64 W,.int .i64 C,.slice A n c] 32)).alloc (.cells #[x0,x1,x2,.int .i64 K,.int .i64 S,.int .i64 P,.int .i64 O,.int .i8 Z,x8,.slice WA nW cW,.slice BA nB cB,x11,x12,x13,x14,x15,x16,x17,x18] 28)).alloc (.cells #[.int .i64 0,.int .i64 0,.int .i64 0,.slice none 0 0] 41)):=(((Below.refl _ _).alloc (by first | exact Nat.le_refl _ | (simp;done) | (simp;omega)) _).alloc (by first | exact Nat.le_refl _ | (simp;done) | (simp;omega)) _).alloc (by first | exact Nat.le_refl _ | (simp;done) | (simp;omega)) _
 refine (CTensor.right_to H W C A n c true HT.out _).mono ?_
 rintro e w1 ⟨rfl,hb⟩
 have hh:Below w.heap.size w w1:=hal.trans (hb.mono hal.size)
 have qTB:=(boxNew H W C A n c 32) w
 try simp only [World.size_alloc] at qTB
 have TB:=Lib.hid ((qTB.below (B':=w.heap.size+1) (by omega) ((((Below.refl _ _).alloc (by first | exact Nat.le_refl _ | (simp;done) | (simp;omega)) _).alloc (by first | exact Nat.le_refl _ | (simp;done) | (simp;omega)) _).mono (by simp))).below (by first | (simp;done) | (simp;omega)) hb)
 have yTB:w.heap.size < w1.heap.size:=by have:=hb.size;simp at this;omega
 clear qTB
 have qTN:=(NodeAt.new x0 x1 x2 x8 x11 x12 x13 x14 x15 x16 x17 x18 K S P O Z WA BA nW cW nB cB 28) (w.alloc (.cells #[.int .i64 H,.int .i64 W,.int .i64 C,.slice A n c] 32))
 try simp only [World.size_alloc] at qTN
 have TN:=Lib.hid ((qTN.below (B':=w.heap.size+2) (by omega) (((Below.refl _ _).alloc (by first | exact Nat.le_refl _ | (simp;done) | (simp;omega)) _).mono (by simp))).below (by first | (simp;done) | (simp;omega)) hb)
 have yTN:w.heap.size+1 < w1.heap.size:=by have:=hb.size;simp at this;omega
 clear qTN
 have qFR:=(freshNew 41) ((w.alloc (.cells #[.int .i64 H,.int .i64 W,.int .i64 C,.slice A n c] 32)).alloc (.cells #[x0,x1,x2,.int .i64 K,.int .i64 S,.int .i64 P,.int .i64 O,.int .i8 Z,x8,.slice WA nW cW,.slice BA nB cB,x11,x12,x13,x14,x15,x16,x17,x18] 28))
 try simp only [World.size_alloc] at qFR
 have FR:=Lib.hid (qFR.below (by first | (simp;done) | (simp;omega)) hb)
 have yFR:w.heap.size+2 < w1.heap.size:=by have:=hb.size;simp at this;omega
 clear qFR
 have HBW:Hid (Below w.heap.size w w1):=Lib.hid hh
 obtain⟨tbp0,tbp1,tbp2,tbp3⟩:=TB.out
 clear hb hh hal
 go_wp2_with (refine wpList_load_mid rfl 28 (.tmp 3) rfl (w.heap.size+1) 0 rfl [x0,x1,x2,.int .i64 K,.int .i64 S,.int .i64 P,.int .i64 O,.int .i8 Z,x8,.slice WA nW cW,.slice BA nB cB,x11,x12,x13,x14,x15,x16,x17,x18] _ TN.out Tryz.underlying28 rfl (by kernel_rfl) ?_)
 go_at_call 90
 have hal:Below w1.heap.size w1 w1:=Below.refl _ _
 refine (dshape_to H W C x0 x1 x2 x8 x11 x12 x13 x14 x15 x16 x17 x18 K S P O Z WA BA nW cW nB cB er _ HE.out HS.out _).mono ?_
 rintro e w2 ⟨rfl,hb⟩
 have hh:Below w1.heap.size w1 w2:=hal.trans (hb.mono hal.size)
 replace TB:=Lib.hid (TB.out.below yTB hh)
 replace yTB:=Nat.lt_of_lt_of_le yTB hh.size
 replace TN:=Lib.hid (TN.out.below yTN hh)
 replace yTN:=Nat.lt_of_lt_of_le yTN hh.size
 replace FR:=Lib.hid (FR.out.below yFR hh)
 replace yFR:=Nat.lt_of_lt_of_le yFR hh.size
 replace HBW:=Lib.hid (HBW.out.trans (hh.mono HBW.out.size))
 clear tbp0 tbp1 tbp2 tbp3
 obtain⟨⟨z0,z1,z2,z3⟩,z4,z5,z6,z7⟩:=FR.out
 obtain⟨tbp0,tbp1,tbp2,tbp3⟩:=TB.out
 clear hb hh hal
 go_wp2_with fail
 obtain⟨⟨z0,z1,z2,z3⟩,z4,z5,z6,z7⟩:=FR.out
 refine bodyPost_ret (Kit.results_ct rfl _ _ (w.heap.size+2) 0 [.int .i64 0,.int .i64 0,.int .i64 0,.slice none 0 0] _ rfl (range_4 (by go_cell) (by go_cell) (by go_cell) (by go_cell)) Tryz.underlying41 rfl (by kernel_rfl)) rfl ?_
 exact⟨_,rfl,World.ownsRow_nil _ _ _ _,by exact ((((HBW.out.setCell (p:=⟨w.heap.size+2,0,none⟩) (by simp) _).setCell (p:=⟨w.heap.size+2,1,none⟩) (by simp) _).setCell (p:=⟨w.heap.size+2,2,none⟩) (by simp) _).setCell (p:=⟨w.heap.size+2,3,none⟩) (by simp) _).alloc (by simp;omega) _⟩
set_option maxRecDepth 100000 in
set_option maxHeartbeats 4000000 in
theorem dof_yes (H W C:Int) (A:Option Addr) (zs:List Int) (n c:Nat) (hn:zs.length=n) (ht:tensB H W C n=true) (hz:I8b zs) (x0 x1 x2 x8 x11 x12 x13 x14 x15 x16 x17 x18:Value) (K S P O Z:Int) (WA BA:Option Addr) (nW cW nB cB:Nat) (ws:List Int) (hws:ws.length=nW) (hwc:nW≤cW) (hwb:I8b ws) (bs:List Int) (hbs:bs.length=nB)
  (he:denseE H W C O nW nB=0) (z1 : -128≤Z) (z2:Z≤127) (w:World) (hr:Kit.Rd w w.heap.size A (I8s zs)) (hrw:Kit.Rd w w.heap.size WA (I8s ws)) (hrb:Kit.Rd w w.heap.size BA (I32v bs)) :
  Calls Tryz.prog 36 #[.agg #[.int .i64 H,.int .i64 W,.int .i64 C,.slice A n c],.agg #[x0,x1,x2,.int .i64 K,.int .i64 S,.int .i64 P,.int .i64 O,.int .i8 Z,x8,.slice WA nW cW,.slice BA nB cB,x11,x12,x13,x14,x15,x16,x17,x18]] w (MadeA w 1 1 O nB (rowL (lineF zs ws bs n Z) nB) (.int .i64 0)):=by
 obtain⟨h1,h2,hnW,hn16,hnB⟩:=denseE_ok he
 have hm:(n:Int)=H * W * C:=by simp only [tensB,Bool.and_eq_true,decide_eq_true_eq] at ht;exact ht.2
 obtain⟨-,q1,q2⟩:=el_pos H W C h1
 have hel:elemsZ H W C=(n:Int):=by rw [elemsZ_yes h1,hm]
 rw [hel] at hnW q1 q2
 obtain⟨-, -, -, -,o1,o2, -⟩:=shapeB_yes h2
 have hnn:n * nB=nW:=by
  have e:((n * nB:Nat):Int)=(nW:Int):=by rw [hnW, ← hnB,Int.natCast_mul,Int.mul_comm]
  omega
 have hS:denseS H W C O nW nB=#[.int .i64 1,.int .i64 1,.int .i64 O]:=by unfold denseS;rw [he,if_pos rfl]
 have hline:=fun (w':World) (r1:Kit.Rd w' w'.heap.size A (I8s zs)) (r2:Kit.Rd w' w'.heap.size WA (I8s ws)) (r3:Kit.Rd w' w'.heap.size BA (I32v bs)) =>
  line_yes A zs n c hn (by omega) (by omega) hz WA ws nW cW hws hwc hwb BA bs nB cB hbs (by omega) (by omega) hnn (by omega) Z z1 z2 _ (fun _=>rfl) w' r1 r2 r3
 have HL:=Lib.hid hline
 have HT:=Lib.hid ht
 have HE:=Lib.hid he
 have HS:=Lib.hid hS
 have HR:=Lib.hid hr
 have HRW:=Lib.hid hrw
 have HRB:=Lib.hid hrb
 generalize rowL (lineF zs ws bs n Z) nB=ys at HL ⊢
 clear hline ht he hS hr hrw hrb h1 h2 hm hel hnn hnW hn hws hwb hbs hz q1 q2
 go_enter Tryz.func36,Tryz.ntmps36
 go_wp2_with fail
 go_at_call 17
 have hal:Below w.heap.size w (((w.alloc (.cells #[.int .i64 H,.int .i64 W,.int .i64 C,.slice A n c] 32)).alloc (.cells #[x0,x1,x2,.int .i64 K,.int .i64 S,.int .i64 P,.int .i64 O,.int .i8 Z,x8,.slice WA nW cW,.slice BA nB cB,x11,x12,x13,x14,x15,x16,x17,x18] 28)).alloc (.cells #[.int .i64 0,.int .i64 0,.int .i64 0,.slice none 0 0] 41)):=(((Below.refl _ _).alloc (by first | exact Nat.le_refl _ | (simp;done) | (simp;omega)) _).alloc (by first | exact Nat.le_refl _ | (simp;done) | (simp;omega)) _).alloc (by first | exact Nat.le_refl _ | (simp;done) | (simp;omega)) _
 refine (CTensor.right_to H W C A n c true HT.out _).mono ?_
 rintro e w1 ⟨rfl,hb⟩
 have hh:Below w.heap.size w w1:=hal.trans (hb.mono hal.size)
 have qTB:=(boxNew H W C A n c 32) w
 try simp only [World.size_alloc] at qTB
 have TB:=Lib.hid ((qTB.below (B':=w.heap.size+1) (by omega) ((((Below.refl _ _).alloc (by first | exact Nat.le_refl _ | (simp;done) | (simp;omega)) _).alloc (by first | exact Nat.le_refl _ | (simp;done) | (simp;omega)) _).mono (by simp))).below (by first | (simp;done) | (simp;omega)) hb)
 have yTB:w.heap.size < w1.heap.size:=by have:=hb.size;simp at this;omega
 clear qTB
 have qTN:=(NodeAt.new x0 x1 x2 x8 x11 x12 x13 x14 x15 x16 x17 x18 K S P O Z WA BA nW cW nB cB 28) (w.alloc (.cells #[.int .i64 H,.int .i64 W,.int .i64 C,.slice A n c] 32))
 try simp only [World.size_alloc] at qTN
 have TN:=Lib.hid ((qTN.below (B':=w.heap.size+2) (by omega) (((Below.refl _ _).alloc (by first | exact Nat.le_refl _ | (simp;done) | (simp;omega)) _).mono (by simp))).below (by first | (simp;done) | (simp;omega)) hb)
 have yTN:w.heap.size+1 < w1.heap.size:=by have:=hb.size;simp at this;omega
 clear qTN
 have qFR:=(freshNew 41) ((w.alloc (.cells #[.int .i64 H,.int .i64 W,.int .i64 C,.slice A n c] 32)).alloc (.cells #[x0,x1,x2,.int .i64 K,.int .i64 S,.int .i64 P,.int .i64 O,.int .i8 Z,x8,.slice WA nW cW,.slice BA nB cB,x11,x12,x13,x14,x15,x16,x17,x18] 28))
 try simp only [World.size_alloc] at qFR
 have FR:=Lib.hid (qFR.below (by first | (simp;done) | (simp;omega)) hb)
 have yFR:w.heap.size+2 < w1.heap.size:=by have:=hb.size;simp at this;omega
 clear qFR
 replace HR:=Lib.hid ((HR.out.below hh).more hh.size)
 replace HRW:=Lib.hid ((HRW.out.below hh).more hh.size)
 replace HRB:=Lib.hid ((HRB.out.below hh).more hh.size)
 have HBW:Hid (Below w.heap.size w w1):=Lib.hid hh
 obtain⟨tbp0,tbp1,tbp2,tbp3⟩:=TB.out
 clear hb hh hal
 go_wp2_with (refine wpList_load_mid rfl 28 (.tmp 3) rfl (w.heap.size+1) 0 rfl [x0,x1,x2,.int .i64 K,.int .i64 S,.int .i64 P,.int .i64 O,.int .i8 Z,x8,.slice WA nW cW,.slice BA nB cB,x11,x12,x13,x14,x15,x16,x17,x18] _ TN.out Tryz.underlying28 rfl (by kernel_rfl) ?_)
 go_at_call 90
 have hal:Below w1.heap.size w1 w1:=Below.refl _ _
 refine (dshape_to H W C x0 x1 x2 x8 x11 x12 x13 x14 x15 x16 x17 x18 K S P O Z WA BA nW cW nB cB 0 _ HE.out HS.out _).mono ?_
 rintro e w2 ⟨rfl,hb⟩
 have hh:Below w1.heap.size w1 w2:=hal.trans (hb.mono hal.size)
 replace TB:=Lib.hid (TB.out.below yTB hh)
 replace yTB:=Nat.lt_of_lt_of_le yTB hh.size
 replace TN:=Lib.hid (TN.out.below yTN hh)
 replace yTN:=Nat.lt_of_lt_of_le yTN hh.size
 replace FR:=Lib.hid (FR.out.below yFR hh)
 replace yFR:=Nat.lt_of_lt_of_le yFR hh.size
 replace HR:=Lib.hid ((HR.out.below hh).more hh.size)
 replace HRW:=Lib.hid ((HRW.out.below hh).more hh.size)
 replace HRB:=Lib.hid ((HRB.out.below hh).more hh.size)
 replace HBW:=Lib.hid (HBW.out.trans (hh.mono HBW.out.size))
 clear tbp0 tbp1 tbp2 tbp3
 obtain⟨tbp0,tbp1,tbp2,tbp3⟩:=TB.out
 clear hb hh hal
 go_wp2_with fail
 obtain⟨Wn,hWn⟩:∃ Wn,w2.alloc (.cells #[.int .i64 1,.int .i64 1,.int .i64 O] 30)=Wn:=⟨_,rfl⟩
 have hbn:Below w2.heap.size w2 Wn:=by rw [← hWn];exact (Below.refl _ _).alloc (Nat.le_refl _) _
 have hts:CConv.ShapeAt w2.heap.size 1 1 O Wn:=by rw [← hWn];exact shapeNew 1 1 O 30 w2
 have hzn:w2.heap.size+1=Wn.heap.size:=by rw [← hWn];simp
 rw [hWn]
 have hg6:w.heap.size+3≤w2.heap.size:=yFR
 have n7:=(TN.out.below yTN hbn).at 7 _ rfl
 have n9:=(TN.out.below yTN hbn).at 9 _ rfl
 have n10:=(TN.out.below yTN hbn).at 10 _ rfl
 obtain⟨-, -, -,t3⟩:=TB.out.below yTB hbn
 obtain⟨s0,s1,s2⟩:=hts
 replace HR:=Lib.hid ((HR.out.below hbn).more hbn.size)
 replace HRW:=Lib.hid ((HRW.out.below hbn).more hbn.size)
 replace HRB:=Lib.hid ((HRB.out.below hbn).more hbn.size)
 replace HBW:=Lib.hid (HBW.out.trans (hbn.mono HBW.out.size))
 replace FR:=Lib.hid (FR.out.below yFR hbn)
 generalize w2.heap.size=g6 at s0 s1 s2 hzn hg6 ⊢
 clear TB TN yTB yTN yFR hbn hWn tbp0 tbp1 tbp2 tbp3
 refine wp_region_held_drew (S:=fun w'=>w'.cell? ⟨g6,0,none⟩=some (.int .i64 1)∧w'.cell? ⟨g6,1,none⟩=some (.int .i64 1)∧w'.cell? ⟨g6,2,none⟩=some (.int .i64 O)∧w'.cell? ⟨w.heap.size,3,none⟩=some (.slice A n c)∧w'.cell? ⟨w.heap.size+1,7,none⟩=some (.int .i8 Z)∧w'.cell? ⟨w.heap.size+1,9,none⟩=some (.slice WA nW cW)∧w'.cell? ⟨w.heap.size+1,10,none⟩=some (.slice BA nB cB)) (by kernel_rfl) ⟨s0,s1,s2,t3,n7,n9,n10⟩ (fun hHeld=>?_)
 have hd9:Below Wn.heap.size Wn Wn.drew:=(Below.refl _ _).drew
 replace HR:=Lib.hid (HR.out.below hd9)
 replace HRW:=Lib.hid (HRW.out.below hd9)
 replace HRB:=Lib.hid (HRB.out.below hd9)
 replace HBW:=Lib.hid HBW.out.drew
 replace FR:=Lib.hid (FR.out.below (by omega) hd9)
 replace hzn:g6+1=Wn.drew.heap.size:=hzn
 clear hd9 s0 s1 s2 t3 n7 n9 n10
 replace HR:Hid (Kit.Rd Wn.drew Wn.drew.heap.size A (I8s zs)):=HR
 replace HRW:Hid (Kit.Rd Wn.drew Wn.drew.heap.size WA (I8s ws)):=HRW
 replace HRB:Hid (Kit.Rd Wn.drew Wn.drew.heap.size BA (I32v bs)):=HRB
 generalize Wn.drew=Wd at HR HRW HRB HBW FR hzn hHeld ⊢
 refine Tk.y 0 (v:=?_) rfl ?_ ?_
 rotate_left
 ·intro wS hSw
  obtain⟨k1,k2,k3,k4,k5,k6,k7⟩:=hSw
  first | (go_simp;done) | (go_simp;with_reducible rfl)
 try simp only [Tk.put]
 refine Tk.x 1 rfl ?_
 try simp only [Tk.put]
 refine Tk.y 2 (v:=?_) rfl ?_ ?_
 rotate_left
 ·intro wS hSw
  obtain⟨k1,k2,k3,k4,k5,k6,k7⟩:=hSw
  first | (go_simp;done) | (go_simp;with_reducible rfl)
 try simp only [Tk.put]
 refine Tk.x 3 rfl ?_
 try simp only [Tk.put]
 refine Tk.y 4 (v:=?_) rfl ?_ ?_
 rotate_left
 ·intro wS hSw
  obtain⟨k1,k2,k3,k4,k5,k6,k7⟩:=hSw
  first | (go_simp;done) | (go_simp;with_reducible rfl)
 try simp only [Tk.put]
 refine Tk.x 5 rfl ?_
 try simp only [Tk.put]
 refine Tk.y 6 (v:=?_) rfl ?_ ?_
 rotate_left
 ·intro wS hSw
  obtain⟨k1,k2,k3,k4,k5,k6,k7⟩:=hSw
  first | (go_simp;done) | (go_simp;with_reducible rfl)
 try simp only [Tk.put]
 refine Tk.x 7 rfl ?_
 try simp only [Tk.put]
 refine Tk.y 8 (v:=?_) rfl ?_ ?_
 rotate_left
 ·intro wS hSw
  obtain⟨k1,k2,k3,k4,k5,k6,k7⟩:=hSw
  first | (go_simp;done) | (go_simp;with_reducible rfl)
 try simp only [Tk.put]
 refine Tk.s 9 rfl (fun Kq hK=>?_)
 go_simp
 go_at_call 91
 refine (HL.out _ HR.out HRW.out HRB.out).mono ?_
 rintro e we ⟨v9,rfl,ho,hb⟩
 obtain⟨k1,k2,k3,k4,k5,k6,k7⟩:=hHeld
 have hS1:=And.intro ((hb.cell (p:=⟨g6,0,none⟩) (by simp;omega)).trans k1) (And.intro ((hb.cell (p:=⟨g6,1,none⟩) (by simp;omega)).trans k2) (And.intro ((hb.cell (p:=⟨g6,2,none⟩) (by simp;omega)).trans k3) (And.intro ((hb.cell (p:=⟨w.heap.size,3,none⟩) (by simp;omega)).trans k4) (And.intro ((hb.cell (p:=⟨w.heap.size+1,7,none⟩) (by simp;omega)).trans k5) (And.intro ((hb.cell (p:=⟨w.heap.size+1,9,none⟩) (by simp;omega)).trans k6) ((hb.cell (p:=⟨w.heap.size+1,10,none⟩) (by simp;omega)).trans k7))))))
 replace HBW:=Lib.hid (HBW.out.trans (hb.mono HBW.out.size))
 replace FR:=Lib.hid (FR.out.below (by omega) hb)
 have HO:=Lib.hid (Kit.own_base ho (show g6+1≤_ by omega))
 clear hb ho k1 k2 k3 k4 k5 k6 k7 HR HRW HRB HL hzn
 dsimp only
 refine hK.out _ _ ?_ (fun hHeld=>?_)
 ·exact hS1
 clear hK Kq
 try simp only [Tk.put]
 obtain⟨V9,c9,rfl, -, -, -⟩:=Kit.own_rd HO.out
 refine Tk.x 10 rfl ?_
 try simp only [Tk.put]
 obtain⟨⟨z0,z1',z2',z3⟩,z4,z5,z6,z7⟩:=FR.out
 obtain⟨k1,k2,k3,k4,k5,k6,k7⟩:=hHeld
 have u1:g6≠w.heap.size+2:=by omega
 have u2:w.heap.size+2≠g6:=by omega
 refine Tk.s 11 rfl (fun Kq hK=>?_)
 go_simp
 refine hK.out _ _ ?_ (fun hHeld=>?_)
 ·exact⟨by go_cell,by go_cell,by go_cell,by go_cell,by go_cell,by go_cell,by go_cell⟩
 clear hK Kq
 try simp only [Tk.put]
 refine Tk.x 12 rfl ?_
 try simp only [Tk.put]
 refine wpAnyH_done (by kernel_rfl) ?_ _
 clear hHeld k1 k2 k3 k4 k5 k6 k7
 go_wp2_with fail
 refine bodyPost_ret (Kit.results_ct rfl _ _ (w.heap.size+2) 0 [.int .i64 1,.int .i64 1,.int .i64 O,.slice V9 nB c9] _ rfl (range_4 (by go_cell) (by go_cell) (by go_cell) (by go_cell)) Tryz.underlying41 rfl (by kernel_rfl)) rfl ?_
 refine⟨_,rfl,Kit.own_base (own_set9 HO.out (by omega)) (by omega),?_⟩
 exact (((HBW.out.setCell (p:=⟨w.heap.size+2,0,none⟩) (by simp) _).setCell (p:=⟨w.heap.size+2,1,none⟩) (by simp) _).setCell (p:=⟨w.heap.size+2,2,none⟩) (by simp) _).setCell (p:=⟨w.heap.size+2,3,none⟩) (by simp) _
end Go.Proofs.YtkpngknbiecdiaaGreatDoor.CDense
end
