/- -/
import Derived.Test.YtfgdfignoakkaaaGreatDoorGBT14
import Derived.Test.YtfgdfignoakkaaaGreatDoorGBT15
import Derived.Test.YtfgdfignoakkaaaGreatDoorGBT16
import Derived.Test.YtfgdfignoakkaaaGreatDoorGBT17
open Go.Lib (hid)
open Nat (le_refl lt_of_succ_lt lt_succ_self)
set_option linter.unusedVariables false
set_option linter.unusedSimpArgs false
set_option maxRecDepth 100000
set_option maxHeartbeats 16000000
namespace Go.Proofs.YtfgdfignoakkaaaGreatDoor
namespace CConv
end CConv
namespace CDense
end CDense
namespace CFix
end CFix
namespace CKind
end CKind
namespace CSat
end CSat
namespace CShape
end CShape
namespace CTensor
end CTensor
open Go Go.ChangeShapes Go.WideShapes Go.ChangeAt Go.RowKit Go.Deep
section
namespace CGraph
open Plain CSat CFix CShape CTensor CConv CKind
def i64V (L:List Int):List Value:=L.map (.int .i64)
theorem kd6 {x:Nd} (h:x.kd=6):(x.kd == 6)=true∧(x.kd != 6)=false:=by simp [h]
theorem kd6n {x:Nd} (h:¬ x.kd=6):(x.kd == 6)=false∧(x.kd != 6)=true:=by simp [h]
theorem operands_to (x:Nd) (w:World):Calls Tryz.prog 146 #[.agg x.val] w fun e w'=>∃ b,e=.returned (.slice (some ⟨b,0,none⟩) (opL x).length (opL x).length)∧w.heap.size≤b∧Kit.Rd w' w'.heap.size (some ⟨b,0,none⟩) (i64V (opL x))∧Below w.heap.size w w':=by
 have TN:=NdAt.new x 54 w
 have HB0:=(Below.refl w.heap.size w).alloc (le_refl _) (.cells x.val 54)
 have c0:=TN.at 0 _ rfl
 have c1:=TN.at 1 _ rfl
 have c2:=TN.at 2 _ rfl
 have HB:=hid HB0
 clear TN HB0
 by_cases h:x.kd=6
 ·obtain⟨h1,h2⟩:=kd6 h
  have e:opL x=[x.na,x.nb]:=by unfold opL;rw [if_pos h]
  rw [e]
  clear e h
  go_enter Tryz.func146,Tryz.ntmps146
  go_upto_region 1 with fail
  generalize w.alloc (.cells x.val 54)=W0 at c0 c1 c2 HB ⊢
  go_wp2_with fail
  go_ret
  exact⟨_,rfl,HB.out.size,Kit.Rd.new _ [.int .i64 x.na,.int .i64 x.nb] _ (by simp),HB.out.alloc HB.out.size _⟩
 ·obtain⟨h1,h2⟩:=kd6n h
  have e:opL x=[x.na]:=by unfold opL;rw [if_neg h]
  rw [e]
  clear e h
  go_enter Tryz.func146,Tryz.ntmps146
  go_upto_region 1 with fail
  generalize w.alloc (.cells x.val 54)=W0 at c0 c1 c2 HB ⊢
  go_wp2_with fail
  go_ret
  exact⟨_,rfl,HB.out.size,Kit.Rd.new _ [.int .i64 x.na] _ (by simp),HB.out.alloc HB.out.size _⟩
theorem earB_iff:∀ (l:List Int) (m:Int),earB l m=true↔∀ (k:Nat) (z:Int),l[k]?=some z→0≤z∧z < m
 | [],m=>by simp [earB]
 | v :: r,m=>by
   simp only [earB,Bool.and_eq_true,decide_eq_true_eq,earB_iff r m]
   constructor
   ·rintro⟨h1,h2⟩ k z hk
    cases k with
    | zero=>simp at hk;subst hk;exact h1
    | succ k=>exact h2 k z (by simpa using hk)
   ·intro h
    exact⟨h 0 v rfl,fun k z hk=>h (k+1) z (by simpa using hk)⟩
theorem earB_no {l:List Int} {m:Int} {k:Nat} {z:Int} (hk:l[k]?=some z) (h:¬ (0≤z∧z < m)):earB l m=false:=by
 cases e:earB l m with
 | false=>rfl
 | true=>exact absurd ((earB_iff l m).1 e k z hk) h
def AheadZ (l:List Int) (m:Int) (k:Nat):Prop:=∀ (j:Nat) (z:Int),j < k→l[j]?=some z→0≤z∧z < m
theorem earlier_to (l:List Int) (n:Nat) (hn:l.length=n) (hn1:n≤1000) (m:Int) (A:Option Addr) (c:Nat) (w:World) {B:Nat} (hr:Kit.Rd w B A (i64V l)):Calls Tryz.prog 145 #[.slice A n c,.int .i64 m] w fun e w'=>e=.returned (.bool (earB l m))∧w=w':=by
 have HR:=hid hr
 have HN:=hid hn
 clear hr hn
 go_enter Tryz.func145,Tryz.ntmps145
 go_wp2_with fail
 go_loop [9] (fun u=>∃ k:Nat,k≤n∧u=.int .i64 k∧Hid (AheadZ l m k)) (fun u=>n - (intOf u).toNat)
 case atStart=>exact⟨0,Nat.zero_le _,rfl,hid (fun j z hj=>absurd hj (Nat.not_lt_zero _))⟩
 case round =>
  obtain⟨k,hk,rfl,hi⟩:=hrel
  by_cases hlt:k < n
  ·have hkl:k < l.length:=by have:=HN.out;omega
   obtain⟨b,o,rfl, -,h1⟩:=HR.out.plain (by rw [i64V,List.length_map];omega)
   obtain⟨z,hz⟩:∃ z,l[k]?=some z:=⟨_,List.getElem?_eq_getElem hkl⟩
   have c1:=h1 k (.int .i64 z) (by simp [i64V,hz])
   have k0:(0:Int)≤(k:Int):=by omega
   have k1:(k:Int) < (n:Int):=by omega
   clear h1
   by_cases hok:0≤z∧z < m
   ·have hz1:¬ z < 0:=by omega
    have hz2:¬ z ≥ m:=by omega
    have hs:AheadZ l m (k+1):=fun j y hj hy=>by
     rcases Nat.lt_succ_iff_lt_or_eq.1 hj with h | rfl
     ·exact hi.out j y h hy
     ·rw [hz] at hy;cases hy;exact hok
    have HS:=hid hs
    clear hi hs hok hz
    go_wp2_with fail
    go_round
    case rel=>exact⟨k+1,by omega,by go_num,HS⟩
    case measure=>simp [intOf];omega
   ·have hf:=earB_no hz hok
    have HF:=hid hf
    clear hi hf hz
    by_cases hz1:z < 0
    ·clear hok
     go_wp2_with fail
     go_ret
     exact⟨by rw [HF.out];rfl,rfl⟩
    ·have hz2:z ≥ m:=by omega
     clear hok
     go_wp2_with fail
     go_ret
     exact⟨by rw [HF.out];rfl,rfl⟩
  ·obtain rfl:k=n:=by omega
   have hy:earB l m=true:=(earB_iff l m).2 fun j z hz=>hi.out j z (by have:=(List.getElem?_eq_some_iff.1 hz).1;have:=HN.out;omega) hz
   have HY:=hid hy
   clear hi hy
   go_wp2_with fail
   go_ret
   exact⟨by rw [HY.out];rfl,rfl⟩
end CGraph
end
section
namespace CKind
open Plain CSat CFix CShape CTensor CConv
theorem alike_own (x:Nd) (h:1≤x.kd∧x.kd≤9):x.alikeB (x.ownK x.kd) = !x.moreB:=by
 have hk:x.kd=1∨x.kd=2∨x.kd=3∨x.kd=4∨x.kd=5∨x.kd=6∨x.kd=7∨x.kd=8∨x.kd=9:=by omega
 clear h
 rw [Bool.eq_iff_iff]
 rcases hk with h | h | h | h | h | h | h | h | h
 all_goals
  simp [Nd.alikeB,nineB,Nd.ownK,Nd.moreB,sumsB,slidesB,zbj,h]
  try omega
theorem own_small (x:Nd) (k:Int) (hx:x.Small):(x.ownK k).Small:=by
 obtain⟨h1,h2,h3,h4⟩:=hx
 refine⟨?_,?_,?_,?_⟩
 all_goals
  simp only [Nd.ownK]
  split <;> omega
theorem right_b (m s z:Int) (b:Bool) (h:zax m s=b) (w:World):Calls Tryz.prog 162 #[.agg #[.int .i32 m,.int .i64 s,.int .i8 z]] w fun e w'=>e=.returned (.bool b)∧Below w.heap.size w w':=by
 cases b
 ·exact isRight_no m s z h w
 ·exact isRight_yes m s z h w
theorem zay (x:Nd) (hx:x.Small) (w:World) (hT:zad w):Calls Tryz.prog 144 #[.agg x.val] w fun e w'=>e=.returned (.int .i64 x.checkZ)∧Below w.heap.size w w':=by
 have TN:=hid (NdAt.new x 54 w)
 have HB:=hid ((Below.refl w.heap.size w).alloc (le_refl _) (.cells x.val 54))
 have HS:Hid (w.heap.size < (w.alloc (.cells x.val 54)).heap.size):=hid (by simp)
 have HT:Hid (zad (w.alloc (.cells x.val 54))):=hid (hT.grown HB.out)
 obtain⟨kb,hkb⟩:∃ b,zbr x.kd=b:=⟨_,rfl⟩
 obtain⟨mb,hmb⟩:∃ mb,x.moreB=mb:=⟨_,rfl⟩
 obtain⟨sb,hsb⟩:∃ sb,zbj x.kd=sb:=⟨_,rfl⟩
 obtain⟨r1,hr1⟩:∃ b,zax x.m1 x.s1=b:=⟨_,rfl⟩
 obtain⟨r2,hr2⟩:∃ b,zax x.m2 x.s2=b:=⟨_,rfl⟩
 have hkn:=fun (w:World) (h:zad w)=>known_to x.kd w h
 rw [hkb] at hkn
 have hsc:=fun (w:World)=>scaled_to x.kd w
 rw [hsb] at hsc
 have HKN:=hid hkn
 have HSC:=hid hsc
 have HRA:=hid (fun (w:World)=>right_b x.m1 x.s1 x.z1 r1 hr1 w)
 have HRB:=hid (fun (w:World)=>right_b x.m2 x.s2 x.z2 r2 hr2 w)
 have hz:x.checkZ=if kb=false then 6 else if mb=true then 2 else if ((sb && !r1) || (x.kd == 6 && !r2))=true then 7 else if (sb && decide (x.hi < x.lo))=true then 2 else 0:=by
  unfold Nd.checkZ;rw [hmb,hsb,hr1,hr2]
  by_cases h:x.kd < 1∨9 < x.kd
  ·have e:kb=false:=by rw [← hkb];exact decide_eq_false (by omega)
   rw [if_pos h,e];rfl
  ·have e:kb=true:=by rw [← hkb];exact decide_eq_true (by omega)
   rw [if_neg h,e];rfl
 have HZ:=hid hz
 have HOW:Hid (kb=true→∀ w,Calls Tryz.prog 160 #[.agg x.val] w fun e w'=>e=.returned (.agg (x.ownK x.kd).val)∧Below w.heap.size w w'):=hid (fun h w=>own_to x (by rw [← hkb] at h;simpa [zbr] using h) w)
 have HAL:Hid (kb=true→∀ w,Calls Tryz.prog 159 #[.agg x.val,.agg (x.ownK x.kd).val] w fun e w'=>e=.returned (.bool !mb)∧Below w.heap.size w w'):=hid (fun h w=>csame_to x _ hx (own_small x _ hx) _ (by rw [alike_own x (by rw [← hkb] at h;simpa [zbr] using h),hmb]) w)
 generalize x.ownK x.kd=y at *
 clear hkb hmb hsb hr1 hr2 hz hkn hsc hx hT
 go_enter Tryz.func144,Tryz.ntmps144
 go_upto_region 1 with fail
 generalize w.alloc (.cells x.val 54)=W0 at TN HB HS HT ⊢
 have n0:=TN.out.at 0 (.int .i64 x.kd) rfl
 have n11:=TN.out.at 11 (.int .i32 x.m1) rfl
 have n12:=TN.out.at 12 (.int .i64 x.s1) rfl
 have n13:=TN.out.at 13 (.int .i8 x.z1) rfl
 have n14:=TN.out.at 14 (.int .i32 x.m2) rfl
 have n15:=TN.out.at 15 (.int .i64 x.s2) rfl
 have n16:=TN.out.at 16 (.int .i8 x.z2) rfl
 have n17:=TN.out.at 17 (.int .i8 x.lo) rfl
 have n18:=TN.out.at 18 (.int .i8 x.hi) rfl
 cases kb with
 | false =>
   go_wp2_with (go_at_call 158;(with_reducible refine (HKN.out _ HT.out).mono ?_);rintro e w1 ⟨rfl,rfl⟩)
   go_ret
   exact⟨by rw [HZ.out];rfl,HB.out⟩
 | true =>
   go_upto_region 3 with (go_at_call 158;(with_reducible refine (HKN.out _ HT.out).mono ?_);rintro e w1 ⟨rfl,rfl⟩)
   refine wp_region_held_drew (S:=NdAt w.heap.size x) (by kernel_rfl) (TN.out.below HS.out (Below.refl _ _).drew) (fun hHeld=>?_)
   replace HB:=hid (HB.out.trans (Below.refl _ W0).drew)
   replace HS:Hid (w.heap.size < W0.drew.heap.size):=hid HS.out
   clear TN HT HKN n0 n11 n12 n13 n14 n15 n16 n17 n18
   generalize W0.drew=W1 at *
   clear W0
   refine Tk.t 0 (v:=.agg x.val) rfl (zav _ rfl (by rfl) _ x rfl (fun _ h=>h)) (by assumption) ?_
   try simp only [Tk.put]
   refine Tk.t 1 (v:=.agg x.val) rfl (zav _ rfl (by rfl) _ x rfl (fun _ h=>h)) (by assumption) ?_
   try simp only [Tk.put]
   refine Tk.s 2 rfl (fun Kq hK=>?_)
   go_simp
   go_at_call 160
   with_reducible refine (HOW.out trivial _).mono ?_
   rintro e w1 ⟨rfl,hb⟩
   replace HB:=hid (HB.out.trans (hb.mono HB.out.size))
   have hS2:=hHeld.below HS.out hb
   replace HS:=hid (Nat.lt_of_lt_of_le HS.out hb.size)
   clear hb hHeld
   refine hK.out _ _ hS2 (fun hHeld=>?_)
   clear hK Kq hS2
   try simp only [Tk.put]
   refine Tk.s 3 rfl (fun Kq hK=>?_)
   go_simp
   go_at_call 159
   with_reducible refine (HAL.out trivial _).mono ?_
   rintro e w1 ⟨rfl,hb⟩
   replace HB:=hid (HB.out.trans (hb.mono HB.out.size))
   have hS2:=hHeld.below HS.out hb
   replace HS:=hid (Nat.lt_of_lt_of_le HS.out hb.size)
   clear hb hHeld
   refine hK.out _ _ hS2 (fun hHeld=>?_)
   clear hK Kq hS2
   try simp only [Tk.put]
   refine Tk.x 4 rfl ?_
   try simp only [Tk.put]
   refine Tk.x 5 rfl ?_
   try simp only [Tk.put]
   refine wpAnyH_done (by kernel_rfl) ?_ _
   have TN:=hid hHeld
   clear hHeld HOW HAL
   have n0:=TN.out.at 0 (.int .i64 x.kd) rfl
   have n11:=TN.out.at 11 (.int .i32 x.m1) rfl
   have n12:=TN.out.at 12 (.int .i64 x.s1) rfl
   have n13:=TN.out.at 13 (.int .i8 x.z1) rfl
   have n14:=TN.out.at 14 (.int .i32 x.m2) rfl
   have n15:=TN.out.at 15 (.int .i64 x.s2) rfl
   have n16:=TN.out.at 16 (.int .i8 x.z2) rfl
   have n17:=TN.out.at 17 (.int .i8 x.lo) rfl
   have n18:=TN.out.at 18 (.int .i8 x.hi) rfl
   cases mb with
   | true =>
     go_wp2_with fail
     go_ret
     have hz3:x.checkZ=2:=by rw [HZ.out];simp
     exact⟨by rw [hz3];rfl,HB.out⟩
   | false =>
     have HZ2:Hid (x.checkZ=if ((sb && !r1) || (x.kd == 6 && !r2))=true then 7 else if (sb && decide (x.hi < x.lo))=true then 2 else 0):=hid (by rw [HZ.out];simp)
     clear HZ
     obtain⟨k6,hk6⟩:∃ b,(x.kd == 6)=b:=⟨_,rfl⟩
     obtain⟨lb,hlb⟩:∃ b,decide (x.hi < x.lo)=b:=⟨_,rfl⟩
     rw [hk6,hlb] at HZ2
     cases sb <;> cases r1 <;> cases k6 <;> cases r2 <;> cases lb
     all_goals
      go_wp2_with (first | (go_at_call 161;(with_reducible refine (HSC.out _).mono ?_);rintro e w1 ⟨rfl,rfl⟩) | (go_at_call 162;(with_reducible refine (HRA.out _).mono ?_);rintro e w1 ⟨rfl,hb⟩;(replace TN:=hid (TN.out.below HS.out hb));(replace HB:=hid (HB.out.trans (hb.mono HB.out.size)));(replace HS:=hid (Nat.lt_of_lt_of_le HS.out hb.size));clear hb n0 n11 n12 n13 n14 n15 n16 n17 n18;(have n0:=TN.out.at 0 (.int .i64 x.kd) rfl);(have n11:=TN.out.at 11 (.int .i32 x.m1) rfl);(have n12:=TN.out.at 12 (.int .i64 x.s1) rfl);(have n13:=TN.out.at 13 (.int .i8 x.z1) rfl);(have n14:=TN.out.at 14 (.int .i32 x.m2) rfl);(have n15:=TN.out.at 15 (.int .i64 x.s2) rfl);(have n16:=TN.out.at 16 (.int .i8 x.z2) rfl);(have n17:=TN.out.at 17 (.int .i8 x.lo) rfl);(have n18:=TN.out.at 18 (.int .i8 x.hi) rfl)) | (go_at_call 162;(with_reducible refine (HRB.out _).mono ?_);rintro e w1 ⟨rfl,hb⟩;(replace TN:=hid (TN.out.below HS.out hb));(replace HB:=hid (HB.out.trans (hb.mono HB.out.size)));(replace HS:=hid (Nat.lt_of_lt_of_le HS.out hb.size));clear hb n0 n11 n12 n13 n14 n15 n16 n17 n18;(have n0:=TN.out.at 0 (.int .i64 x.kd) rfl);(have n11:=TN.out.at 11 (.int .i32 x.m1) rfl);(have n12:=TN.out.at 12 (.int .i64 x.s1) rfl);(have n13:=TN.out.at 13 (.int .i8 x.z1) rfl);(have n14:=TN.out.at 14 (.int .i32 x.m2) rfl);(have n15:=TN.out.at 15 (.int .i64 x.s2) rfl);(have n16:=TN.out.at 16 (.int .i8 x.z2) rfl);(have n17:=TN.out.at 17 (.int .i8 x.lo) rfl);(have n18:=TN.out.at 18 (.int .i8 x.hi) rfl)))
      go_ret
      exact⟨by rw [HZ2.out];rfl,HB.out⟩
end CKind
end
section
namespace CKind
open Plain CSat CShape CTensor CConv CDense CDepth
theorem shape_flat (H W C:Int):zae 1 1 (zas H W C)=zae H W C:=by
 cases hs:zae H W C
 ·rw [elemsZ_no hs];decide
 ·obtain⟨a1,a2,a3,a4,a5,a6,a7⟩:=zah hs
  have:=prod_bd a1 a2 a3 a4 a5 a6
  rw [zbc hs]
  generalize H * W * C=n at *
  exact decide_eq_true ⟨by omega,by omega,by omega,by omega,by omega,by omega,by omega⟩
theorem shape_to (x:Nd):ShapeIs 147 x:=by
 intro H W C H2 W2 C2 e u0 u1 u2 he hv w
 by_cases h0:x.kd < 1∨9 < x.kd
 ·have n1:¬ x.kd=1:=by omega
  have n2:¬ x.kd=2:=by omega
  have n3:¬ x.kd=3:=by omega
  have n4:¬ (x.kd=4∨x.kd=5):=by omega
  have e6:x.shE H W C H2 W2 C2=6:=by unfold Nd.shE;rw [if_neg n1,if_neg n2,if_neg n3,if_neg n4,if_pos h0]
  refine csh_0 x h0 H W C H2 W2 C2 e u0 u1 u2 (e6.symm.trans he) ?_ w
  rw [← hv];unfold Nd.shV;rw [if_neg n1,if_neg n2,if_neg n3,if_neg n4,e6,if_pos (by decide)]
 have hk:x.kd=1∨x.kd=2∨x.kd=3∨x.kd=4∨x.kd=5∨x.kd=6∨x.kd=7∨x.kd=8∨x.kd=9:=by omega
 clear h0
 have c0:∀ {b:Bool} {y:Int},(if b=false then (5:Int) else y)=if b=true then y else 5:=fun {b} {y} => by cases b <;> rfl
 unfold Nd.shV Nd.shE at hv
 unfold Nd.shE at he
 rcases hk with h | h | h | h | h | h | h | h | h
 all_goals simp only [h,if_true,if_false,show ¬ (2:Int)=1 by decide,show ¬ (3:Int)=1 by decide,show ¬ (4:Int)=1 by decide,show ¬ (5:Int)=1 by decide,show ¬ (6:Int)=1 by decide,show ¬ (7:Int)=1 by decide,show ¬ (8:Int)=1 by decide,show ¬ (9:Int)=1 by decide,
  show ¬ (3:Int)=2 by decide,show ¬ (4:Int)=2 by decide,show ¬ (5:Int)=2 by decide,show ¬ (6:Int)=2 by decide,show ¬ (7:Int)=2 by decide,show ¬ (8:Int)=2 by decide,show ¬ (9:Int)=2 by decide,
  show ¬ (4:Int)=3 by decide,show ¬ (5:Int)=3 by decide,show ¬ (6:Int)=3 by decide,show ¬ (7:Int)=3 by decide,show ¬ (8:Int)=3 by decide,show ¬ (9:Int)=3 by decide,
  show ((4:Int)=4∨(4:Int)=5) by decide,show ((5:Int)=4∨(5:Int)=5) by decide,show ¬ ((6:Int)=4∨(6:Int)=5) by decide,show ¬ ((7:Int)=4∨(7:Int)=5) by decide,show ¬ ((8:Int)=4∨(8:Int)=5) by decide,show ¬ ((9:Int)=4∨(9:Int)=5) by decide,
  show ¬ ((6:Int) < 1∨(9:Int) < 6) by decide,show ¬ ((7:Int) < 1∨(9:Int) < 7) by decide,show ¬ ((8:Int) < 1∨(9:Int) < 8) by decide,show ¬ ((9:Int) < 1∨(9:Int) < 9) by decide,
  show ¬ (7:Int)=6 by decide,show ¬ (8:Int)=6 by decide,show ¬ (9:Int)=6 by decide,show ¬ (6:Int)=8 by decide,show ¬ (7:Int)=8 by decide,show ¬ (9:Int)=8 by decide,show ¬ (6:Int)=9 by decide,show ¬ (7:Int)=9 by decide,show ¬ (8:Int)=9 by decide,true_and,false_and] at he hv
 ·exact csh_1 x h H W C H2 W2 C2 e u0 u1 u2 he hv w
 ·exact csh_2 x h H W C H2 W2 C2 e u0 u1 u2 he hv w
 ·exact csh_3 x h H W C H2 W2 C2 e u0 u1 u2 he hv w
 ·exact csh_4 x h H W C H2 W2 C2 e u0 u1 u2 he hv w
 ·exact csh_5 x h H W C H2 W2 C2 e u0 u1 u2 he hv w
 ·cases hd:(H == H2 && (W == W2 && C == C2))
  ·have h5:(if zae H W C=false then (5:Int) else if (H == H2 && (W == W2 && C == C2))=false then 5 else 0)=5:=by rw [hd];cases zae H W C <;> rfl
   rw [h5] at he hv
   exact csh_6n x h H W C H2 W2 C2 e u0 u1 u2 hd he (by rw [← hv,if_pos (by decide)]) w
  ·have h5:(if zae H W C=false then (5:Int) else if (H == H2 && (W == W2 && C == C2))=false then 5 else 0)=if zae H W C=true then 0 else 5:=by rw [hd];cases zae H W C <;> rfl
   rw [h5] at he hv
   refine csh_6y x h H W C H2 W2 C2 e u0 u1 u2 hd he ?_ w
   rw [← hv];cases zae H W C <;> rfl
 ·rw [c0] at he hv
  refine csh_7 x h H W C H2 W2 C2 e u0 u1 u2 he ?_ w
  rw [← hv];cases zae H W C <;> rfl
 ·refine csh_8 x h H W C H2 W2 C2 e u0 u1 u2 he ?_ w
  rw [← hv, ← he]
 ·rw [c0] at he hv
  refine csh_9 x h H W C H2 W2 C2 e u0 u1 u2 _ rfl (by rw [shape_flat];exact he) ?_ w
  rw [shape_flat, ← hv];cases zae H W C <;> rfl
end CKind
end
end Go.Proofs.YtfgdfignoakkaaaGreatDoor
