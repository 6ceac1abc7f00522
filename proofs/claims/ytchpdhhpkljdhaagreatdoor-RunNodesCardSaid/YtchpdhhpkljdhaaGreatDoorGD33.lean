/- -/
import Derived.LaidMore
import Derived.Stop.Joined
import Derived.Test.YtchpdhhpkljdhaaGreatDoorGD32
open Go.Value renaming int→Jj
open Go.IntKind renaming i64→Jq
open Go.Lib (hid)
open Nat (le_refl lt_of_succ_lt lt_succ_self)
set_option linter.unusedVariables false
set_option linter.unusedSimpArgs false
set_option maxRecDepth 100000
set_option maxHeartbeats 16000000
namespace Go.Proofs.YtchpdhhpkljdhaaGreatDoor
namespace CConv
end CConv
namespace CKind
end CKind
namespace CSat
end CSat
open Go Go.ChangeShapes Go.WideShapes Go.ChangeAt Go.RowKit Go.Deep
section
namespace CKind
open Plain CSat CFix CShape CTensor CConv
theorem alike_own (x:Nd) (h:1≤x.kd∧x.kd≤9):x.alikeB (x.ownK x.kd) = !x.moreB:=by
 have hk:x.kd=1∨x.kd=2∨x.kd=3∨x.kd=4∨x.kd=5∨x.kd=6∨x.kd=7∨x.kd=8∨x.kd=9:=by omega
 clear h
 rw [Bool.eq_iff_iff]
 rcases hk with h | h | h | h | h | h | h | h | h
 all_goals
  simp [Nd.alikeB,nineB,Nd.ownK,Nd.moreB,sumsB,zai,zaf,h]
  try omega
theorem own_small (x:Nd) (k:Int) (hx:x.Small):(x.ownK k).Small:=by
 obtain⟨h1,h2,h3,h4⟩:=hx
 refine⟨?_,?_,?_,?_⟩
 all_goals
  simp only [Nd.ownK]
  split <;> omega
theorem right_b (m s z:Int) (b:Bool) (h:zau m s=b) (w:World):Calls Tryz.prog 42 #[.agg #[.int .i32 m,Jj Jq s,.int .i8 z]] w fun e w'=>e=.returned (.bool b)∧Below w.heap.size w w':=by
 cases b
 ·exact isRight_no m s z h w
 ·exact zcu m s z h w
theorem zbu (x:Nd) (hx:x.Small) (w:World) (hT:zbv w):Calls Tryz.prog 12 #[.agg x.val] w fun e w'=>e=.returned (Jj Jq x.checkZ)∧Below w.heap.size w w':=by
 refine Z7d ?_;intro TN HB
 have HS:Hid (w.heap.size < (w.alloc (.cells x.val 28)).heap.size):=hid Zb7
 have HT:Hid (zbv (w.alloc (.cells x.val 28))):=hid (hT.grown HB.out)
 obtain⟨kb,hkb⟩:∃ b,knownB x.kd=b:=⟨_,rfl⟩
 obtain⟨mb,hmb⟩:∃ mb,x.moreB=mb:=⟨_,rfl⟩
 obtain⟨sb,hsb⟩:∃ sb,zaf x.kd=sb:=⟨_,rfl⟩
 obtain⟨r1,hr1⟩:∃ b,zau x.m1 x.s1=b:=⟨_,rfl⟩
 obtain⟨r2,hr2⟩:∃ b,zau x.m2 x.s2=b:=⟨_,rfl⟩
 have hkn:=fun (w:World) (h:zbv w)=>known_to x.kd w h
 rw [hkb] at hkn
 have hsc:=fun (w:World)=>scaled_to x.kd w
 rw [hsb] at hsc
 have HKN:=hid hkn
 have HSC:=hid hsc
 have HRA:=hid (fun (w:World)=>right_b x.m1 x.s1 x.z1 r1 hr1 w)
 have HRB:=hid (fun (w:World)=>right_b x.m2 x.s2 x.z2 r2 hr2 w)
 have hz:x.checkZ=if kb=false then 6 else if mb=true then 2 else if ((sb && !r1) || (x.kd == 6 && !r2))=true then 7 else if (sb && decide (x.hi < x.lo))=true then 2 else 0:=by
  unfold Nd.checkZ;rw [hmb,hsb,hr1,hr2]
  by_cases h:x.kd < 1∨9 < x.kd
  ·have e:kb=false:=by rw [← hkb];exact decide_eq_false Zb3
   rw [if_pos h,e];rfl
  ·have e:kb=true:=by rw [← hkb];exact decide_eq_true Zb3
   rw [if_neg h,e];rfl
 have HZ:=hid hz
 have HOW:Hid (kb=true→∀ w,Calls Tryz.prog 40 #[.agg x.val] w fun e w'=>e=.returned (.agg (x.ownK x.kd).val)∧Below w.heap.size w w'):=hid (fun h w=>own_to x (by rw [← hkb] at h;simpa [knownB] using h) w)
 have HAL:Hid (kb=true→∀ w,Calls Tryz.prog 39 #[.agg x.val,.agg (x.ownK x.kd).val] w fun e w'=>e=.returned (.bool !mb)∧Below w.heap.size w w'):=hid (fun h w=>csame_to x _ hx (own_small x _ hx) _ (by rw [alike_own x (by rw [← hkb] at h;simpa [knownB] using h),hmb]) w)
 generalize x.ownK x.kd=y at *
 clear hkb hmb hsb hr1 hr2 hz hkn hsc hx hT
 go_enter Tryz.func12,Tryz.ntmps12
 go_upto_region 1 with fail
 generalize w.alloc (.cells x.val 28)=W0 at TN HB HS HT ⊢
 refine Z9y ?_;intro n0 n11 n12 n13 n14 n15 n16 n17 n18
 cases kb with
 | false =>
   go_wp2_with (go_at_call 38;(with_reducible refine (HKN.out _ HT.out).mono ?_);rintro e w1 ⟨rfl,rfl⟩)
   go_ret
   exact⟨by rw [HZ.out];rfl,HB.out⟩
 | true =>
   go_upto_region 3 with (go_at_call 38;(with_reducible refine (HKN.out _ HT.out).mono ?_);rintro e w1 ⟨rfl,rfl⟩)
   refine wp_region_held_drew (S:=NdAt w.heap.size x) Zb5 (TN.out.below HS.out (Below.refl _ _).drew) (fun hHeld=>?_)
   replace HB:=hid (HB.out.trans (Below.refl _ W0).drew)
   replace HS:Hid (w.heap.size < W0.drew.heap.size):=hid HS.out
   clear TN HT HKN n0 n11 n12 n13 n14 n15 n16 n17 n18
   generalize W0.drew=W1 at *
   clear W0
   refine Tk.t 0 (v:=.agg x.val) rfl (zcp _ rfl Zbu _ x rfl (fun _ h=>h)) Zbd ?_
   refine Z5y ?_
   refine Tk.t 1 (v:=.agg x.val) rfl (zcp _ rfl Zbu _ x rfl (fun _ h=>h)) Zbd ?_
   refine Z5y ?_
   refine Tk.s 2 rfl (fun Kq hK=>?_)
   go_simp
   go_at_call 40
   with_reducible refine (HOW.out trivial _).mono ?_
   rintro e w1 ⟨rfl,hb⟩
   replace HB:=hid (HB.out.trans (hb.mono HB.out.size))
   have hS2:=hHeld.below HS.out hb
   replace HS:=hid (Nat.lt_of_lt_of_le HS.out hb.size)
   clear hb hHeld
   refine Z8a ?_;intro hHeld
   clear hK Kq hS2
   refine Z5y ?_
   refine Tk.s 3 rfl (fun Kq hK=>?_)
   go_simp
   go_at_call 39
   with_reducible refine (HAL.out trivial _).mono ?_
   rintro e w1 ⟨rfl,hb⟩
   replace HB:=hid (HB.out.trans (hb.mono HB.out.size))
   have hS2:=hHeld.below HS.out hb
   replace HS:=hid (Nat.lt_of_lt_of_le HS.out hb.size)
   clear hb hHeld
   refine Z8a ?_;intro hHeld
   clear hK Kq hS2
   refine Z5y ?_
   refine Z9b ?_
   refine Z5y ?_
   refine Za1 ?_
   refine Z5y ?_
   refine Z6y ?_
   have TN:=hid hHeld
   clear hHeld HOW HAL
   refine Z9y ?_;intro n0 n11 n12 n13 n14 n15 n16 n17 n18
   cases mb with
   | true =>
     go_wp2_with fail
     go_ret
     have hz3:x.checkZ=2:=by rw [HZ.out];simp
     exact⟨by rw [hz3];rfl,HB.out⟩
   | false =>
     have HZ2:Hid (x.checkZ=if ((sb && !r1) || (x.kd == 6 && !r2))=true then 7 else if (sb && decide (x.hi < x.lo))=true then 2 else 0):=hid (by rw [HZ.out];simp)
     clear HZ
     obtain⟨k6,hk6⟩:∃ b,(x.kd == 6)=b:=⟨_,rfl⟩
     obtain⟨lb,hlb⟩:∃ b,decide (x.hi < x.lo)=b:=⟨_,rfl⟩
     rw [hk6,hlb] at HZ2
     cases sb <;> cases r1 <;> cases k6 <;> cases r2 <;> cases lb
     all_goals
      go_wp2_with (first | (go_at_call 41;(with_reducible refine (HSC.out _).mono ?_);rintro e w1 ⟨rfl,rfl⟩) | (go_at_call 42;(with_reducible refine (HRA.out _).mono ?_);rintro e w1 ⟨rfl,hb⟩;(replace TN:=hid (TN.out.below HS.out hb));(replace HB:=hid (HB.out.trans (hb.mono HB.out.size)));(replace HS:=hid (Nat.lt_of_lt_of_le HS.out hb.size));clear hb n0 n11 n12 n13 n14 n15 n16 n17 n18;(have n0:=TN.out.at 0 (Jj Jq x.kd) rfl);(have n11:=TN.out.at 11 (.int .i32 x.m1) rfl);(have n12:=TN.out.at 12 (Jj Jq x.s1) rfl);(have n13:=TN.out.at 13 (.int .i8 x.z1) rfl);(have n14:=TN.out.at 14 (.int .i32 x.m2) rfl);(have n15:=TN.out.at 15 (Jj Jq x.s2) rfl);(have n16:=TN.out.at 16 (.int .i8 x.z2) rfl);(have n17:=TN.out.at 17 (.int .i8 x.lo) rfl);(have n18:=TN.out.at 18 (.int .i8 x.hi) rfl)) | (go_at_call 42;(with_reducible refine (HRB.out _).mono ?_);rintro e w1 ⟨rfl,hb⟩;(replace TN:=hid (TN.out.below HS.out hb));(replace HB:=hid (HB.out.trans (hb.mono HB.out.size)));(replace HS:=hid (Nat.lt_of_lt_of_le HS.out hb.size));clear hb n0 n11 n12 n13 n14 n15 n16 n17 n18;(have n0:=TN.out.at 0 (Jj Jq x.kd) rfl);(have n11:=TN.out.at 11 (.int .i32 x.m1) rfl);(have n12:=TN.out.at 12 (Jj Jq x.s1) rfl);(have n13:=TN.out.at 13 (.int .i8 x.z1) rfl);(have n14:=TN.out.at 14 (.int .i32 x.m2) rfl);(have n15:=TN.out.at 15 (Jj Jq x.s2) rfl);(have n16:=TN.out.at 16 (.int .i8 x.z2) rfl);(have n17:=TN.out.at 17 (.int .i8 x.lo) rfl);(have n18:=TN.out.at 18 (.int .i8 x.hi) rfl)))
      go_ret
      exact⟨by rw [HZ2.out];rfl,HB.out⟩
end CKind
end
section
namespace CRun
open Plain CSat CShape CTensor CConv CKind CFix
def Mem (x:Nd) (A B:Option Addr) (zs ys ws bs:List Int) (w:World):Prop :=
 Kit.Rd w w.heap.size A (I8s zs)∧Kit.Rd w w.heap.size B (I8s ys)∧Kit.Rd w w.heap.size x.WA (I8s ws)∧Kit.Rd w w.heap.size x.BA (I32v bs)∧zbv w
theorem Mem.grown {x:Nd} {A B:Option Addr} {zs ys ws bs:List Int} {w w':World} (h:Mem x A B zs ys ws bs w) (hb:Below w.heap.size w w'):Mem x A B zs ys ws bs w' :=
 ⟨(h.1.below hb).more hb.size,(h.2.1.below hb).more hb.size,(h.2.2.1.below hb).more hb.size,(h.2.2.2.1.below hb).more hb.size,h.2.2.2.2.grown hb⟩
structure NIn (x:Nd) (ws bs:List Int):Prop where
 hws:ws.length=x.nW
 hwc:x.nW≤x.cW
 hwm:x.cW≤maxLen
 hwb:I8b ws
 hbs:bs.length=x.nB
 hb32:∀ q, -2147483648≤bs.getD q 0∧bs.getD q 0≤2147483647
 z1 : -128≤x.Z
 z2:x.Z≤127
 small:x.Small
 hm:(-2147483648≤x.m1∧x.m1≤2147483647)∧(-128≤x.z1∧x.z1≤127)∧(-2147483648≤x.m2∧x.m2≤2147483647)∧(-128≤x.z2∧x.z2≤127)
theorem tens_of {H W C:Int} {n:Nat} (hs:zam H W C=true) (hn:(n:Int)=H * W * C):tensB H W C n=true:=by simp [tensB,hs,hn]
theorem tens_shape {H W C:Int} {n:Nat} (ht:tensB H W C n=true):zam H W C=true:=by simp [tensB] at ht;exact ht.1
theorem tens_num {H W C:Int} {n:Nat} (ht:tensB H W C n=true):(n:Int)=H * W * C:=by simp [tensB] at ht;exact ht.2
theorem wrap32_in (a:Int) : -2147483648≤IntKind.i32.wrap a∧IntKind.i32.wrap a≤2147483647:=by rw [IntKind.wrap_i32];omega
theorem check_ok {x:Nd} (h:x.checkZ=0):(1≤x.kd∧x.kd≤9)∧(zaf x.kd=true→zau x.m1 x.s1=true)∧(x.kd=6→zau x.m2 x.s2=true):=by
 unfold Nd.checkZ at h
 split at h
 ·cases h
 rename_i h1
 split at h
 ·cases h
 split at h
 ·cases h
 rename_i h3
 refine⟨by omega,fun hs=>?_,fun hk=>?_⟩
 ·cases hr:zau x.m1 x.s1
  ·exact absurd (by simp [hs,hr]) h3
  ·rfl
 ·cases hr:zau x.m2 x.s2
  ·exact absurd (by simp [hk,hr]) h3
  ·rfl
end CRun
end
section
namespace CPool
open Go Go.ChangeShapes Go.WideShapes Go.ChangeAt Go.RowKit Go.Shelf
open Plain CSat CShape CTensor CConv
attribute [local go_sem] Oper.semAt_some
def maxL (l:List Int):Int:=l.foldl (fun a x=>if a < x then x else a) (-128)
theorem maxL_snoc (l:List Int) (x:Int):maxL (l ++ [x])=if maxL l < x then x else maxL l:=by unfold maxL;rw [List.foldl_append];rfl
theorem maxC_to (g b off:Nat) (H W C:Int) (N c kk o d:Nat) (top left:Int) (G:Nat→Int) (hbz:∀ k, -128≤G k∧G k≤127) (ht:tensB H W C N=true) (hd:C=(d:Int)) (ho:o < d) (hk7:kk≤7)
  (t1 : -1000≤top) (t2:top≤1000) (l1 : -1000≤left) (l2:left≤1000) (R:Int) (hR:maxL ((rowsI H W C top left kk o kk).map G)=R)
  (w:World) (hg:g+4 < w.heap.size) (hb:b < w.heap.size) (hcap:CapAt g H W C (some ⟨b,off,none⟩) N c (kk:Int) top left (o:Int) w) (hc:∀ j,j < N→w.cell? ⟨b,off+j,none⟩=some (.int .i8 (G j))) :
  Calls Tryz.prog 46 #[.func (.func 135) #[] #[.pointer (some ⟨g+1,0,none⟩),.pointer (some ⟨g,0,none⟩),.pointer (some ⟨g+2,0,none⟩),.pointer (some ⟨g+3,0,none⟩),.pointer (some ⟨g+4,0,none⟩)]] w fun e w'=>e=.returned (.int .i8 R)∧Below w.heap.size w w':=by
 have HR:=hid hR
 clear hR
 refine (callsIn_wide (n:=5)).1 ?_
 refine callsIn_of_wp_marks Tryz.func46 rfl trivial ?_ rfl
 simp only [Tryz.ntmps46,List.size_toArray,List.length_cons,List.length_nil,Nat.reduceAdd,Nat.reduceSub,Array.replicate_succ,Array.replicate_zero,List.push_toArray,List.append_toArray,List.nil_append,List.cons_append]
 refine wpIn_wide.2 ?_
 go_wp2_with fail
 have bX:=Boxed.new w 22 (.int .i8 (-128))
 have hbW:Below w.heap.size w (w.alloc (.cells #[.int .i8 (-128)] 22)):=(Below.refl _ _).alloc (le_refl _) _
 have hsW:(w.alloc (.cells #[.int .i8 (-128)] 22)).heap.size=w.heap.size+1:=by simp
 generalize w.alloc (.cells #[.int .i8 (-128)] 22)=W1 at bX hbW hsW ⊢
 refine (wpIn_wide (n:=5)).1 ?_
 refine wpIn_rangeFunc_ownG (F:=Fence.wide) (n:=5) rfl Zb3 (gf:=135) (lb:=#[.pointer (some ⟨g+1,0,none⟩),.pointer (some ⟨g,0,none⟩),.pointer (some ⟨g+2,0,none⟩),.pointer (some ⟨g+3,0,none⟩),.pointer (some ⟨g+4,0,none⟩)]) rfl trivial (enters_of Tryz.func135 Zb5 rfl)
  (seq_window (5 - 1) Zb3 g w.heap.size b off H W C N c kk o d top left G ht hd ho hk7 t1 t2 l1 l2 hg hb W1 Zb3 (hcap.below hg hbW) (fun j hj=>(hbW.cell (p:=⟨b,off+j,none⟩) hb).trans (hc j hj))) belowK_t (belowK_b Zb3) (Below.refl _ _) (fun _=>rfl)
  (fun pre W=>Boxed W w.heap.size 22 (.int .i8 (maxL (pre.map G)))∧Below w.heap.size w W)
  (fun _ _ _=>False)
  (OwnFrom.and (Own.from (boxed_own w.heap.size 22 (fun pre:List Nat=>.int .i8 (maxL (pre.map G)))) _) (ownFrom_below Zb3 Zb3))
  (fun _ _ _ _ _ hs _ _=>hs)
  ⟨bX,hbW⟩
  ?a1 ?assign ?body ?done ?stop
 case assign =>
  intro l x W K hK
  gi_wp2
  exact hK
 case body =>
  rintro l pre x W ⟨hX,hB⟩ _
  have hs:=maxL_snoc (pre.map G) (G x)
  have hm:(pre ++ [x]).map G=pre.map G ++ [G x]:=by simp
  rw [← hm] at hs
  clear hm
  obtain⟨m0,hm0⟩:∃ m0,maxL (pre.map G)=m0:=⟨_,rfl⟩
  rw [hm0] at hs hX
  generalize G x=y at hs ⊢
  have HS:=hid hs
  have HX:=hid hX
  have HB:=hid hB
  have hcx:=hX.cell
  have hfx:=hX.frozen
  clear hs hX hB hm0 hbz bX hbW hcap hc ht
  by_cases hlt:m0 < y
  ·have hmx:max m0 y=y:=by omega
   gi_wp2
   exact⟨(KeepsOthers.setCell _ _ _).from _,(Below.refl _ _).setCell (p:=⟨w.heap.size,0,none⟩) (le_refl _) _,by rw [HS.out,if_pos Zb3];exact HX.out.set _,HB.out.setCell (p:=⟨w.heap.size,0,none⟩) (le_refl _) _⟩
  ·have hmx:max m0 y=m0:=by omega
   have hle:y≤m0:=by omega
   gi_wp2
   exact⟨(KeepsOthers.setCell _ _ _).from _,(Below.refl _ _).setCell (p:=⟨w.heap.size,0,none⟩) (le_refl _) _,by rw [HS.out,if_neg Zb3];exact HX.out.set _,HB.out.setCell (p:=⟨w.heap.size,0,none⟩) (le_refl _) _⟩
 case done =>
  rintro D ls W hD rfl ⟨hX,hB⟩ hK
  rw [HR.out] at hX
  have hcx:=hX.cell
  have HB:=hid hB
  have HK:=hid hK
  have HD:=hid hD
  clear hX hB hK hD hbz bX hbW hcap hc ht
  go_wp2_with fail
  refine⟨by simp,.inl ⟨_,_,rfl,run_takeDeferred HK.out,?_⟩⟩
  refine⟨.int .i8 R,?_,rfl,HB.out.trans (belowK_b (w:=w) (le_refl _) _ D _ _ (by have:=HD.out;omega) HK.out rfl rfl)⟩
  simp [results,Tryz.f46,go_sem]
 case stop =>
  rintro D c pre W _ _ h _
  exact h.elim
end CPool
end
section
namespace CTensor
open Go Go.ChangeShapes Go.WideShapes Go.ChangeAt Go.RowKit
open Plain CSat CShape
theorem refSame_to (H W C:Int) (A B:Option Addr) (xs ys:List Int) (n c d:Nat) (hx:xs.length=n) (hy:ys.length=n) (hl:n≤1000000) (b:Bool) (hb:decide (xs=ys)=b) (w:World) {B1 B2:Nat} (h1:B1≤w.heap.size) (h2:B2≤w.heap.size) (ha:Kit.Rd w B1 A (xs.map (.int .i8))) (hbb:Kit.Rd w B2 B (ys.map (.int .i8))) :
  Calls Tryz.prog 10 #[.agg #[Jj Jq H,Jj Jq W,Jj Jq C,.slice A n c],.agg #[Jj Jq H,Jj Jq W,Jj Jq C,.slice B n d]] w fun e w'=>e=.returned (.bool b)∧Below w.heap.size w w':=by
 have HA:=hid ((ha.alloc h1 (.cells #[Jj Jq H,Jj Jq W,Jj Jq C,.slice A n c] 32)).alloc Zba (.cells #[Jj Jq H,Jj Jq W,Jj Jq C,.slice B n d] 32))
 have HB:=hid ((hbb.alloc h2 (.cells #[Jj Jq H,Jj Jq W,Jj Jq C,.slice A n c] 32)).alloc Zba (.cells #[Jj Jq H,Jj Jq W,Jj Jq C,.slice B n d] 32))
 have HX:=hid hx
 have HY:=hid hy
 have HBB:=hid hb
 clear ha hbb hx hy hb
 have HE:=zb9 H W C H W C
 have hg:=Tryz.eqGuardType30
 go_enter Tryz.func10,Tryz.ntmps10
 go_wp2_with fail
 have HBW:Hid (Below w.heap.size w ((w.alloc (.cells #[Jj Jq H,Jj Jq W,Jj Jq C,.slice A n c] 32)).alloc (.cells #[Jj Jq H,Jj Jq W,Jj Jq C,.slice B n d] 32))):=hid (((Below.refl _ _).alloc (le_refl _) _).alloc Zb7 _)
 have hca:((w.alloc (.cells #[Jj Jq H,Jj Jq W,Jj Jq C,.slice A n c] 32)).alloc (.cells #[Jj Jq H,Jj Jq W,Jj Jq C,.slice B n d] 32)).cell? ⟨w.heap.size,3,none⟩=some (.slice A n c):=by
  rw [World.cell?_alloc_lt _ _ _ Zb7];exact Kit.zan _ _ _ _
 have hcb:((w.alloc (.cells #[Jj Jq H,Jj Jq W,Jj Jq C,.slice A n c] 32)).alloc (.cells #[Jj Jq H,Jj Jq W,Jj Jq C,.slice B n d] 32)).cell? ⟨w.heap.size+1,3,none⟩=some (.slice B n d):=by
  have hcb:=Kit.zan (w.alloc (.cells #[Jj Jq H,Jj Jq W,Jj Jq C,.slice A n c] 32)) #[Jj Jq H,Jj Jq W,Jj Jq C,.slice B n d] 32 3
  rw [World.size_alloc] at hcb;exact hcb
 generalize ((w.alloc (.cells #[Jj Jq H,Jj Jq W,Jj Jq C,.slice A n c] 32)).alloc (.cells #[Jj Jq H,Jj Jq W,Jj Jq C,.slice B n d] 32))=W1 at HA HB HBW hca hcb ⊢
 go_loopw [5] (fun i wr=>∃ k nq:Nat,k≤n∧i=Jj Jq k∧Hid (xs.take k=ys.take k)∧Hid (wr=W1.drewN nq)) (fun i _=>n - (intOf i).toNat)
 case atStart=>exact⟨0,0,Nat.zero_le _,rfl,hid Zb7,hid rfl⟩
 case round =>
  obtain⟨k,nq,hk,rfl,ht,hw⟩:=hrel
  obtain rfl:=hw.out
  clear hw
  by_cases hlt:k < n
  ·have hx1:k < xs.length:=by have:=HX.out;omega
   have hy1:k < ys.length:=by have:=HY.out;omega
   obtain⟨b1,off1,rfl,_,hcx⟩:=HA.out.ints hx1
   obtain⟨b2,off2,rfl,_,hcy⟩:=HB.out.ints hy1
   have hd:=differ hx1 hy1
   have htk:xs[k]=ys[k]→xs.take (k+1)=ys.take (k+1):=fun e=>by
    rw [List.take_succ_eq_append_getElem hx1,List.take_succ_eq_append_getElem hy1,ht.out,e]
   have HD:=hid hd
   have HT:=hid htk
   clear hd htk
   by_cases he:xs[k]=ys[k]
   ·have HTK:=hid (HT.out he)
    rw [← he] at hcy
    clear HD HT he
    generalize xs[k]=x at hcx hcy
    have h0:(0:Int)≤(k:Int):=by omega
    have h1:(k:Int) < (n:Int):=by omega
    go_wp2_with fail
    go_quiet (fail)
    go_wp2
    go_roundw
    case rel=>exact⟨k+1,_,by omega,by go_num,HTK,hid rfl⟩
    case measure=>simp [intOf];omega
   ·have hF:=HD.out he
    have hbf:b=false:=by rw [← HBB.out,hF]
    subst hbf
    clear HD HT hF
    generalize xs[k]=x at hcx he
    generalize ys[k]=y at hcy he
    have hne:(x != y)=true:=by simpa using he
    have h0:(0:Int)≤(k:Int):=by omega
    have h1:(k:Int) < (n:Int):=by omega
    go_wp2_with fail
    go_quiet (fail)
    go_wp2
    go_ret
    exact⟨rfl,Kit.below_drewN (Kit.below_drewN HBW.out _) _⟩
  ·have hke:k=n:=by omega
   have hbt:b=true:=by
    rw [← HBB.out]
    have:=ht.out
    rw [hke,List.take_of_length_le (by have:=HX.out;omega),List.take_of_length_le (by have:=HY.out;omega)] at this
    simp [this]
   subst hbt
   go_wp2_with fail
   go_ret
   exact⟨rfl,Kit.below_drewN HBW.out _⟩
end CTensor
end
section
namespace CPad
open Go Go.ChangeShapes Go.WideShapes Go.ChangeAt Go.RowKit
open Plain CSat CShape CTensor
theorem zbu (H W C:Int) (A:Option Addr) (n c:Nat) (p:Int) (r:Int) (hr:(if tensB H W C n=true then (if p < 0∨4 < p then 2 else 0) else 5)=r) (w:World) :
  Calls Tryz.prog 55 #[.agg #[Jj Jq H,Jj Jq W,Jj Jq C,.slice A n c],Jj Jq p] w fun e w'=>e=.returned (Jj Jq r)∧Below w.heap.size w w':=by
 cases ht:tensB H W C n
 ·rw [ht] at hr
  simp at hr
  subst hr
  have HT:=hid ht
  clear ht
  go_enter Tryz.func55,Tryz.ntmps55
  go_wp2_with (go_at_call 13;(refine (zak H W C A n c false HT.out _).mono ?_);rintro e w1 ⟨rfl,hb⟩;(have HB:=hid (((Below.refl w.heap.size w).alloc (le_refl _) _).trans (hb.mono Zb7)));clear hb)
  go_ret
  exact⟨rfl,HB.out⟩
 ·rw [ht,if_pos rfl] at hr
  have HT:=hid ht
  clear ht
  rcases (show p < 0∨(0≤p∧4 < p)∨(0≤p∧p≤4) by omega) with h | ⟨h,h2⟩ | ⟨h,h2⟩
  ·rw [if_pos (Or.inl h)] at hr
   exact Z1d
  ·rw [if_pos (Or.inr h2)] at hr
   exact Z1d
  ·rw [if_neg Zb3] at hr
   exact Z1d
theorem widened_to (H W C p:Int) (h1:1≤H) (h2:H≤16) (h3:1≤W) (h4:W≤16) (p1 : -4≤p) (p2:p≤4) (w:World) :
  Calls Tryz.prog 57 #[.agg #[Jj Jq H,Jj Jq W,Jj Jq C],Jj Jq p] w fun e w'=>e=.returned (.agg #[Jj Jq (H+2 * p),Jj Jq (W+2 * p),Jj Jq C])∧Below w.heap.size w w':=by
 go_enter Tryz.func57,Tryz.ntmps57
 go_wp2_with fail
 refine bodyPost_ret (Kit.zbi rfl _ _ (w.heap.size+1) 0 [Jj Jq (H+2 * p),Jj Jq (W+2 * p),Jj Jq C] _ rfl (Kit.za3 Zb6 Zb6 Zb6) Tryz.underlying30 rfl Zb5) rfl ?_
 exact⟨rfl,by go_grown⟩
def MovedAt (B:Nat) (H W C:Int) (A:Option Addr) (n c:Nat) (p q z:Int) (wd:World):Prop :=
 BoxAt B H W C A n c wd∧wd.cell? ⟨B+1,0,none⟩=some (Jj Jq p)∧wd.cell? ⟨B+2,0,none⟩=some (Jj Jq q)∧wd.cell? ⟨B+3,0,none⟩=some (.int .i8 z)
theorem MovedAt.below {B B':Nat} {H W C:Int} {A:Option Addr} {n c:Nat} {p q z:Int} {w w':World} (h:MovedAt B H W C A n c p q z w) (hB:B+4≤B') (hb:Below B' w w'):MovedAt B H W C A n c p q z w':=by
 obtain⟨h0,h1,h2,h3⟩:=h
 exact⟨h0.below Zb3 hb,(hb.cell (p:=⟨B+1,0,none⟩) (by show B+1 < B';omega)).trans h1,(hb.cell (p:=⟨B+2,0,none⟩) (by show B+2 < B';omega)).trans h2,(hb.cell (p:=⟨B+3,0,none⟩) (by show B+3 < B';omega)).trans h3⟩
def movedF (B:Nat):Value:=.func (.func 105) #[] #[.pointer (some ⟨B,0,none⟩),.pointer (some ⟨B+1,0,none⟩),.pointer (some ⟨B+2,0,none⟩),.pointer (some ⟨B+3,0,none⟩)]
theorem moved_to (H W C:Int) (A:Option Addr) (n c:Nat) (p q z:Int) (w:World) :
  Calls Tryz.prog 58 #[.agg #[Jj Jq H,Jj Jq W,Jj Jq C,.slice A n c],Jj Jq p,Jj Jq q,.int .i8 z] w fun e w'=>e=.returned (movedF w.heap.size)∧MovedAt w.heap.size H W C A n c p q z w'∧w.heap.size+4≤w'.heap.size∧Below w.heap.size w w':=by
 go_enter Tryz.func58,Tryz.ntmps58
 go_wp2_with fail
 go_ret
 refine⟨rfl,⟨⟨?_,?_,?_,?_⟩,?_,?_,?_⟩,by simp,by go_grown⟩
 all_goals go_cell
theorem moved1_in (H W C:Int) (A:Option Addr) (zs:List Int) (n c:Nat) (hn:zs.length=n) (hc:n≤c) (ht:tensB H W C n=true) (r s k p q z h v:Int) (hh:IntKind.i64.wrap (r - p)=h) (hv:IntKind.i64.wrap (s - q)=v) (k0:0≤k) (k1:k < C) (h0:0≤h) (h1:h < H) (v0:0≤v) (v1:v < W) (x:Int) (hx:zs.getD ((h * W+v) * C+k).toNat 0=x)
  {B Bz:Nat} (W0:World) (hM:MovedAt B H W C A n c p q z W0) (hB:B+4≤W0.heap.size) (hBz:Bz≤W0.heap.size) (hr:Kit.Rd W0 Bz A (I8s zs)) :
  Calls Tryz.prog 105 #[Jj Jq r,Jj Jq s,Jj Jq k,.pointer (some ⟨B,0,none⟩),.pointer (some ⟨B+1,0,none⟩),.pointer (some ⟨B+2,0,none⟩),.pointer (some ⟨B+3,0,none⟩)] W0 fun e w'=>e=.returned (.int .i8 x)∧Below W0.heap.size W0 w':=by
 refine Z7u ?_;intro hs hm
 obtain⟨g1,g2,g3,g4,g5,g6,g7,g8⟩:=place_bd hs hm h0 h1 v0 v1 k0 k1
 obtain⟨pp,hpp⟩:∃ pp:Nat,(h * W+v) * C+k=(pp:Int):=⟨((h * W+v) * C+k).toNat,by omega⟩
 have hpn:pp < n:=by omega
 have hn9:n≤1000000:=by
  have:=(zac hs).2.2.2.2.2.2;omega
 have hx2:zs[pp]?=some x:=by
  rw [hpp] at hx
  rw [List.getElem?_eq_getElem Zb3, ← hx]
  simp [List.getD_eq_getElem?_getD,List.getElem?_eq_getElem (show pp < zs.length by omega)]
 have hpl:placeB H W C n h v k=true:=by
  simp only [placeB,inB,Bool.and_eq_true,decide_eq_true_eq]
  exact⟨ht,hs,h0,h1,v0,v1,k0,k1⟩
 have HPL:=hid hpl
 have HPP:=hid hpp
 have HX:=hid hx2
 have HN:=hid hn
 have HR:=hid hr
 obtain⟨⟨c0,c1,c2,c3⟩,c4,c5,c6⟩:=hM
 clear hpl hpp hx2 hx hn hr ht hs hm g1 g2 g3 g4 g5 g6 g7 g8
 go_enter Tryz.func105,Tryz.ntmps105
 go_wp2_with (go_at_call 106;(refine (at_yes H W C A zs n c HN.out hc hn9 h v k pp HPL.out HPP.out x HX.out (B:=Bz) _ hBz HR.out).mono ?_);rintro e w1 ⟨rfl,hb⟩;(have HB:=hid hb);clear hb)
 go_ret
 exact⟨rfl,HB.out⟩
theorem moved1_out (H W C:Int) (A:Option Addr) (n c:Nat) (r s k p q z h v:Int) (hh:IntKind.i64.wrap (r - p)=h) (hv:IntKind.i64.wrap (s - q)=v) (ho:¬ (0≤h∧h < H∧0≤v∧v < W))
  {B:Nat} (W0:World) (hM:MovedAt B H W C A n c p q z W0) (hB:B+4≤W0.heap.size) :
  Calls Tryz.prog 105 #[Jj Jq r,Jj Jq s,Jj Jq k,.pointer (some ⟨B,0,none⟩),.pointer (some ⟨B+1,0,none⟩),.pointer (some ⟨B+2,0,none⟩),.pointer (some ⟨B+3,0,none⟩)] W0 fun e w'=>e=.returned (.int .i8 z)∧Below W0.heap.size W0 w':=by
 have hpl:placeB H W C n h v k=false:=by
  cases hb:placeB H W C n h v k
  ·rfl
  ·simp only [placeB,inB,Bool.and_eq_true,decide_eq_true_eq] at hb
   obtain⟨-, -,a1,a2,a3,a4, -⟩:=hb
   exact absurd ⟨a1,a2,a3,a4⟩ ho
 have HPL:=hid hpl
 obtain⟨⟨c0,c1,c2,c3⟩,c4,c5,c6⟩:=hM
 clear hpl ho
 go_enter Tryz.func105,Tryz.ntmps105
 go_wp2_with (go_at_call 106;(refine (at_no H W C A n c h v k HPL.out _).mono ?_);rintro e w1 ⟨rfl,hb⟩;(have c6:=(hb.cell (p:=⟨B+3,0,none⟩) (by show B+3 < _;omega)).trans c6);(have HB:=hid hb);clear hb)
 go_ret
 exact⟨rfl,HB.out⟩
theorem moved1_to (H W C:Int) (A:Option Addr) (zs:List Int) (n c:Nat) (hn:zs.length=n) (hc:n≤c) (ht:tensB H W C n=true) (r s k p q z h v:Int) (hh:IntKind.i64.wrap (r - p)=h) (hv:IntKind.i64.wrap (s - q)=v) (k0:0≤k) (k1:k < C) (x:Int) (hx:pixZ zs H W C h v k z=x)
  {B Bz:Nat} (W0:World) (hM:MovedAt B H W C A n c p q z W0) (hB:B+4≤W0.heap.size) (hBz:Bz≤W0.heap.size) (hr:Kit.Rd W0 Bz A (I8s zs)) :
  Calls Tryz.prog 105 #[Jj Jq r,Jj Jq s,Jj Jq k,.pointer (some ⟨B,0,none⟩),.pointer (some ⟨B+1,0,none⟩),.pointer (some ⟨B+2,0,none⟩),.pointer (some ⟨B+3,0,none⟩)] W0 fun e w'=>e=.returned (.int .i8 x)∧Below W0.heap.size W0 w':=by
 unfold pixZ at hx
 by_cases hi:0≤h∧h < H∧0≤v∧v < W
 ·rw [if_pos hi] at hx
  exact moved1_in H W C A zs n c hn hc ht r s k p q z h v hh hv k0 k1 hi.1 hi.2.1 hi.2.2.1 hi.2.2.2 x hx W0 hM hB hBz hr
 ·rw [if_neg hi] at hx
  subst hx
  exact moved1_out H W C A n c r s k p q z h v hh hv hi W0 hM hB
theorem own_heap {w:World} {base:Nat} {e:TypeId} {g n cap:Nat} {xs:List Value} (h:w.ownsRow base e 1 (.slice (some ⟨g,0,none⟩) n cap) n xs) :
  ∃ rest:List Value,w.heap[g]?=some (.cells (xs ++ rest).toArray e (0,0))∧base≤g∧n≤cap∧cap≤maxLen∧(xs ++ rest).length=cap∧xs.length=n:=by
 rcases h.2 with ⟨h',_⟩ | ⟨g',cap',cur,h',hb,hg,hnc,hcm,hcs,htake⟩
 ·simp at h'
 ·simp only [Value.slice.injEq,Option.some.injEq,Addr.mk.injEq,and_true,true_and] at h'
  obtain⟨rfl,rfl⟩:=h'
  have hx:xs.length=n:=by simpa using h.1
  refine⟨cur.toList.drop n,?_,hb,hnc,hcm,?_,hx⟩
  ·rw [Nat.mul_one] at htake
   rw [← htake,List.take_append_drop];exact hg
  ·rw [Nat.mul_one] at htake hcs
   rw [← htake,List.take_append_drop,Array.length_toList,hcs]
theorem own_of_heap {w:World} {base:Nat} {e:TypeId} {g n cap:Nat} {xs rest:List Value} (hg:w.heap[g]?=some (.cells (xs ++ rest).toArray e (0,0))) (hb:base≤g) (hnc:n≤cap) (hcm:cap≤maxLen) (hl:(xs ++ rest).length=cap) (hx:xs.length=n) :
  w.ownsRow base e 1 (.slice (some ⟨g,0,none⟩) n cap) n xs:=by
 refine⟨by simpa using hx,.inr ⟨g,cap,_,rfl,hb,hg,hnc,hcm,?_,?_⟩⟩
 ·rw [Nat.mul_one,List.size_toArray];exact hl
 ·rw [Nat.mul_one];show (xs ++ rest).take n=xs
  rw [← hx];simp
theorem splice_front {xs rest cs:List Value} {o:Nat} (h:o+cs.length≤xs.length):splice (xs ++ rest) o cs=splice xs o cs ++ rest:=by
 unfold splice
 rw [List.take_append_of_le_length Zb3,List.drop_append_of_le_length h]
 simp
def dataL (F:Nat→Int) (m q:Nat):List Value:=I8s (rowL F q) ++ List.replicate (m - q) (.int .i8 0)
theorem dataL_len (F:Nat→Int) {m q:Nat} (h:q≤m):(dataL F m q).length=m:=by simp [dataL,I8s,rowL];omega
theorem dataL_zero (F:Nat→Int) (m:Nat):dataL F m 0=I8s (List.replicate m 0):=by simp [dataL,I8s,rowL]
theorem dataL_all (F:Nat→Int) (m:Nat):dataL F m m=I8s (rowL F m):=by simp [dataL]
theorem rowL_add (F:Nat→Int) (q l:Nat) (ys:List Int) (hl:ys.length=l) (hy:∀ j,j < l→ys[j]?=some (F (q+j))):rowL F (q+l)=rowL F q ++ ys:=by
 apply List.ext_getElem?
 intro j
 by_cases hj:j < q
 ·rw [List.getElem?_append_left (by simpa [rowL] using hj)]
  simp [rowL,hj,show j < q+l by omega]
 ·rw [List.getElem?_append_right (by simpa [rowL] using Nat.le_of_not_lt hj)]
  rw [show (rowL F q).length=q by simp [rowL]]
  by_cases h2:j - q < l
  ·rw [hy _ h2]
   simp [rowL,show j < q+l by omega,show q+(j - q)=j by omega]
  ·have e1:(rowL F (q+l))[j]?=none:=by simp [rowL];omega
   rw [e1,List.getElem?_eq_none Zb3]
theorem dataL_splice (F:Nat→Int) {m q l:Nat} (ys:List Int) (hl:ys.length=l) (hy:∀ j,j < l→ys[j]?=some (F (q+j))) (h:q+l≤m):splice (dataL F m q) q (I8s ys)=dataL F m (q+l):=by
 unfold splice dataL
 rw [rowL_add F q l ys hl hy]
 rw [List.take_left' (by simp [I8s,rowL]),List.drop_append,List.drop_eq_nil_of_le (by simp [I8s,rowL])]
 simp only [I8s,List.length_map,List.map_append,List.append_assoc,List.nil_append]
 rw [show (rowL F q).length=q by simp [rowL],hl,List.drop_replicate]
 congr 3
 omega
theorem line_set {F:Nat→Int} {q l i:Nat} {ys:List Int} {x:Int} (hl:ys.length=l) (hy:∀ j,j < i→ys[j]?=some (F (q+j))) (hi:i < l) (hx:F (q+i)=x) :
  (ys.set i x).length=l∧∀ j,j < i+1→(ys.set i x)[j]?=some (F (q+j)):=by
 refine⟨by simpa using hl,fun j hj=>?_⟩
 rw [List.getElem?_set]
 by_cases e:i=j
 ·subst e
  rw [if_pos rfl,if_pos Zb3,hx]
 ·rw [if_neg e]
  exact hy j Zb3
theorem I8s_set (ys:List Int) (i:Nat) (x:Int):(I8s ys).set i (.int .i8 x)=I8s (ys.set i x):=by simp [I8s,List.map_set]
theorem own_nonempty {w:World} {base:Nat} {e:TypeId} {n:Nat} {v:Value} {xs:List Value} (h:w.ownsRow base e 1 v n xs) (hn:0 < n):∃ g cap,v=.slice (some ⟨g,0,none⟩) n cap∧n≤cap∧cap≤maxLen∧base≤g∧g < w.heap.size:=by
 rcases h.2 with ⟨_,h0⟩ | ⟨g,cap,cur,h',hb,hg,hnc,hcm,_,_⟩
 ·omega
 ·refine⟨g,cap,h',hnc,hcm,hb,?_⟩
  rcases Nat.lt_or_ge g w.heap.size with hlt | hge
  ·exact hlt
  ·rw [Array.getElem?_eq_none hge] at hg;cases hg
end CPad
end
section
namespace CKind
open Go Go.ChangeShapes Go.WideShapes Go.ChangeAt Go.RowKit Go.Deep Go.WideElems
open Plain CSat CFix CShape CTensor CConv
theorem gVar : Tryz.prog.globalNamed "stepwell/kinds.names" = some 0 := by kernel_rfl
theorem tVar:(Tryz.prog.globals[0]?).map (·.type)=some 167:=by kernel_rfl
def namesZ:List (List UInt8):=[[],[99,111,110,118],[100,101,112,116,104],[100,101,110,115,101],[109,97,120,112,111,111,108],[97,118,103,112,111,111,108],[106,111,105,110],[97,99,116],[112,97,100],[102,108,97,116]]
theorem namesZ_at:∀ n:Nat,n < 10→namesZ[n]?=some (kname n).data.toList:=by decide +kernel
theorem of_laid {W : World} (h : laidMetH Tryz.prog [("stepwell/kinds.names", Rows.laid_stepwell_kinds_names)] W) : zbv W := by
 rw [MakeChecks.laidMetH_plain _ _ _ Zb5] at h
 obtain⟨ps,⟨g0,t0,cs0,f0,p0,q0,hg0,ht0,hv0,hd0,_⟩,_,_⟩:=h
 obtain rfl:=Option.some.inj (gVar.symm.trans hg0)
 obtain rfl:=Option.some.inj (tVar.symm.trans ht0)
 obtain⟨xs,m1,rfl,hx1,hlen,hn3,hel⟩:=DataW.trod_array Tryz.underlying167 hd0
 have c1:Tryz.prog.cellsOf 9=1:=by kernel_rfl
 intro n hn
 rw [World.var?_cell hg0 hv0 n]
 have hi:=hel n hn
 rw [c1] at hi
 have hxs:xs.map (·.1)=namesZ.map fun z=>.lit (.string z):=by
  have:=congrArg Prod.fst hx1
  simp only [Rows.laid_stepwell_kinds_names,DataW.agg.injEq] at this
  exact this.symm
 have hxn:(xs.map (·.1))[n]?=some (.lit (.string (kname n).data.toList)):=by
  rw [hxs,List.getElem?_map,namesZ_at n hn];rfl
 rw [List.getElem?_map] at hxn
 obtain⟨x,hx,hx2⟩:=Option.map_eq_some_iff.1 hxn
 rw [hx] at hi
 obtain⟨k,e1,e2,_⟩:=DataW.trod_string Tryz.underlying9 hi
 have hk:k=kname n:=by
  rw [e2] at hx2
  simp only [DataW.lit.injEq,Lit.string.injEq] at hx2
  exact ByteArray.ext (Array.toList_inj.1 hx2)
 subst hk
 have h0:=congrArg (fun l:List Value=>l[0]?) e1
 simpa using h0
end CKind
end
end Go.Proofs.YtchpdhhpkljdhaaGreatDoor
