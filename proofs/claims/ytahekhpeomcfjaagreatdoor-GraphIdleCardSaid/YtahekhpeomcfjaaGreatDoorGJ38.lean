/- -/
import Derived.Test.YtahekhpeomcfjaaGreatDoorGJ37
open Go.Lib (hid)
open Nat (le_refl lt_of_succ_lt lt_succ_self)
set_option linter.unusedVariables false
set_option linter.unusedSimpArgs false
set_option maxRecDepth 100000
set_option maxHeartbeats 16000000
namespace Go.Proofs.YtahekhpeomcfjaaGreatDoor
namespace CConv
end CConv
namespace CFix
end CFix
namespace CSat
end CSat
namespace CShape
end CShape
namespace CTensor
end CTensor
open Go Go.ChangeShapes Go.WideShapes Go.ChangeAt Go.RowKit Go.Deep
section
namespace CKind
open Plain CSat CFix CShape CTensor CConv
theorem alike_own (x:Nd) (h:1≤x.kd∧x.kd≤9):x.alikeB (x.ownK x.kd) = !x.moreB:=by
 have hk:x.kd=1∨x.kd=2∨x.kd=3∨x.kd=4∨x.kd=5∨x.kd=6∨x.kd=7∨x.kd=8∨x.kd=9:=by omega
 clear h
 rw [Bool.eq_iff_iff]
 rcases hk with h | h | h | h | h | h | h | h | h
 all_goals
  simp [Nd.alikeB,nineB,Nd.ownK,Nd.moreB,sumsB,slidesB,zbv,h]
  try omega
theorem own_small (x:Nd) (k:Int) (hx:x.Small):(x.ownK k).Small:=by
 obtain⟨h1,h2,h3,h4⟩:=hx
 refine⟨?_,?_,?_,?_⟩
 all_goals
  simp only [Nd.ownK]
  split <;> omega
theorem right_b (m s z:Int) (b:Bool) (h:za0 m s=b) (w:World):Calls Tryz.prog 74 #[.agg #[.int .i32 m,.int .i64 s,.int .i8 z]] w fun e w'=>e=.returned (.bool b)∧Below w.heap.size w w':=by
 cases b
 ·exact isRight_no m s z h w
 ·exact zce m s z h w
theorem za1 (x:Nd) (hx:x.Small) (w:World) (hT:NamesIn w):Calls Tryz.prog 42 #[.agg x.val] w fun e w'=>e=.returned (.int .i64 x.checkZ)∧Below w.heap.size w w':=by
 have TN:=hid (NdAt.new x 44 w)
 have HB:=hid ((Below.refl w.heap.size w).alloc (le_refl _) (.cells x.val 44))
 have HS:Hid (w.heap.size < (w.alloc (.cells x.val 44)).heap.size):=hid (by simp)
 have HT:Hid (NamesIn (w.alloc (.cells x.val 44))):=hid (hT.grown HB.out)
 obtain⟨kb,hkb⟩:∃ b,knownB x.kd=b:=⟨_,rfl⟩
 obtain⟨mb,hmb⟩:∃ mb,x.moreB=mb:=⟨_,rfl⟩
 obtain⟨sb,hsb⟩:∃ sb,zbv x.kd=sb:=⟨_,rfl⟩
 obtain⟨r1,hr1⟩:∃ b,za0 x.m1 x.s1=b:=⟨_,rfl⟩
 obtain⟨r2,hr2⟩:∃ b,za0 x.m2 x.s2=b:=⟨_,rfl⟩
 have hkn:=fun (w:World) (h:NamesIn w)=>known_to x.kd w h
 rw [hkb] at hkn
 have hsc:=fun (w:World)=>scaled_to x.kd w
 rw [hsb] at hsc
 have HKN:=hid hkn
 have HSC:=hid hsc
 have HRA:=hid (fun (w:World)=>right_b x.m1 x.s1 x.z1 r1 hr1 w)
 have HRB:=hid (fun (w:World)=>right_b x.m2 x.s2 x.z2 r2 hr2 w)
 have hz:x.checkZ=if kb=false then 6 else if mb=true then 2 else if ((sb && !r1) || (x.kd == 6 && !r2))=true then 7 else if (sb && decide (x.hi < x.lo))=true then 2 else 0:=by
  unfold Nd.checkZ;rw [hmb,hsb,hr1,hr2]
  by_cases h:x.kd < 1∨9 < x.kd
  ·have e:kb=false:=by rw [← hkb];exact decide_eq_false (by omega)
   rw [if_pos h,e];rfl
  ·have e:kb=true:=by rw [← hkb];exact decide_eq_true (by omega)
   rw [if_neg h,e];rfl
 have HZ:=hid hz
 have HOW:Hid (kb=true→∀ w,Calls Tryz.prog 72 #[.agg x.val] w fun e w'=>e=.returned (.agg (x.ownK x.kd).val)∧Below w.heap.size w w'):=hid (fun h w=>own_to x (by rw [← hkb] at h;simpa [knownB] using h) w)
 have HAL:Hid (kb=true→∀ w,Calls Tryz.prog 71 #[.agg x.val,.agg (x.ownK x.kd).val] w fun e w'=>e=.returned (.bool !mb)∧Below w.heap.size w w'):=hid (fun h w=>csame_to x _ hx (own_small x _ hx) _ (by rw [alike_own x (by rw [← hkb] at h;simpa [knownB] using h),hmb]) w)
 generalize x.ownK x.kd=y at *
 clear hkb hmb hsb hr1 hr2 hz hkn hsc hx hT
 go_enter Tryz.func42,Tryz.ntmps42
 go_upto_region 1 with fail
 generalize w.alloc (.cells x.val 44)=W0 at TN HB HS HT ⊢
 have n0:=TN.out.at 0 (.int .i64 x.kd) rfl
 have n11:=TN.out.at 11 (.int .i32 x.m1) rfl
 have n12:=TN.out.at 12 (.int .i64 x.s1) rfl
 have n13:=TN.out.at 13 (.int .i8 x.z1) rfl
 have n14:=TN.out.at 14 (.int .i32 x.m2) rfl
 have n15:=TN.out.at 15 (.int .i64 x.s2) rfl
 have n16:=TN.out.at 16 (.int .i8 x.z2) rfl
 have n17:=TN.out.at 17 (.int .i8 x.lo) rfl
 have n18:=TN.out.at 18 (.int .i8 x.hi) rfl
 cases kb with
 | false =>
   go_wp2_with (go_at_call 70;(with_reducible refine (HKN.out _ HT.out).mono ?_);rintro e w1 ⟨rfl,rfl⟩)
   go_ret
   exact⟨by rw [HZ.out];rfl,HB.out⟩
 | true =>
   go_upto_region 3 with (go_at_call 70;(with_reducible refine (HKN.out _ HT.out).mono ?_);rintro e w1 ⟨rfl,rfl⟩)
   refine wp_region_held_drew (S:=NdAt w.heap.size x) (by kernel_rfl) (TN.out.below HS.out (Below.refl _ _).drew) (fun hHeld=>?_)
   replace HB:=hid (HB.out.trans (Below.refl _ W0).drew)
   replace HS:Hid (w.heap.size < W0.drew.heap.size):=hid HS.out
   clear TN HT HKN n0 n11 n12 n13 n14 n15 n16 n17 n18
   generalize W0.drew=W1 at *
   clear W0
   refine Tk.t 0 (v:=.agg x.val) rfl (zb0 _ rfl (by rfl) _ x rfl (fun _ h=>h)) (by assumption) ?_
   try simp only [Tk.put]
   refine Tk.t 1 (v:=.agg x.val) rfl (zb0 _ rfl (by rfl) _ x rfl (fun _ h=>h)) (by assumption) ?_
   try simp only [Tk.put]
   refine Tk.s 2 rfl (fun Kq hK=>?_)
   go_simp
   go_at_call 72
   with_reducible refine (HOW.out trivial _).mono ?_
   rintro e w1 ⟨rfl,hb⟩
   replace HB:=hid (HB.out.trans (hb.mono HB.out.size))
   have hS2:=hHeld.below HS.out hb
   replace HS:=hid (Nat.lt_of_lt_of_le HS.out hb.size)
   clear hb hHeld
   refine hK.out _ _ hS2 (fun hHeld=>?_)
   clear hK Kq hS2
   try simp only [Tk.put]
   refine Tk.s 3 rfl (fun Kq hK=>?_)
   go_simp
   go_at_call 71
   with_reducible refine (HAL.out trivial _).mono ?_
   rintro e w1 ⟨rfl,hb⟩
   replace HB:=hid (HB.out.trans (hb.mono HB.out.size))
   have hS2:=hHeld.below HS.out hb
   replace HS:=hid (Nat.lt_of_lt_of_le HS.out hb.size)
   clear hb hHeld
   refine hK.out _ _ hS2 (fun hHeld=>?_)
   clear hK Kq hS2
   try simp only [Tk.put]
   refine Tk.x 4 rfl ?_
   try simp only [Tk.put]
   refine Tk.x 5 rfl ?_
   try simp only [Tk.put]
   refine wpAnyH_done (by kernel_rfl) ?_ _
   have TN:=hid hHeld
   clear hHeld HOW HAL
   have n0:=TN.out.at 0 (.int .i64 x.kd) rfl
   have n11:=TN.out.at 11 (.int .i32 x.m1) rfl
   have n12:=TN.out.at 12 (.int .i64 x.s1) rfl
   have n13:=TN.out.at 13 (.int .i8 x.z1) rfl
   have n14:=TN.out.at 14 (.int .i32 x.m2) rfl
   have n15:=TN.out.at 15 (.int .i64 x.s2) rfl
   have n16:=TN.out.at 16 (.int .i8 x.z2) rfl
   have n17:=TN.out.at 17 (.int .i8 x.lo) rfl
   have n18:=TN.out.at 18 (.int .i8 x.hi) rfl
   cases mb with
   | true =>
     go_wp2_with fail
     go_ret
     have hz3:x.checkZ=2:=by rw [HZ.out];simp
     exact⟨by rw [hz3];rfl,HB.out⟩
   | false =>
     have HZ2:Hid (x.checkZ=if ((sb && !r1) || (x.kd == 6 && !r2))=true then 7 else if (sb && decide (x.hi < x.lo))=true then 2 else 0):=hid (by rw [HZ.out];simp)
     clear HZ
     obtain⟨k6,hk6⟩:∃ b,(x.kd == 6)=b:=⟨_,rfl⟩
     obtain⟨lb,hlb⟩:∃ b,decide (x.hi < x.lo)=b:=⟨_,rfl⟩
     rw [hk6,hlb] at HZ2
     cases sb <;> cases r1 <;> cases k6 <;> cases r2 <;> cases lb
     all_goals
      go_wp2_with (first | (go_at_call 73;(with_reducible refine (HSC.out _).mono ?_);rintro e w1 ⟨rfl,rfl⟩) | (go_at_call 74;(with_reducible refine (HRA.out _).mono ?_);rintro e w1 ⟨rfl,hb⟩;(replace TN:=hid (TN.out.below HS.out hb));(replace HB:=hid (HB.out.trans (hb.mono HB.out.size)));(replace HS:=hid (Nat.lt_of_lt_of_le HS.out hb.size));clear hb n0 n11 n12 n13 n14 n15 n16 n17 n18;(have n0:=TN.out.at 0 (.int .i64 x.kd) rfl);(have n11:=TN.out.at 11 (.int .i32 x.m1) rfl);(have n12:=TN.out.at 12 (.int .i64 x.s1) rfl);(have n13:=TN.out.at 13 (.int .i8 x.z1) rfl);(have n14:=TN.out.at 14 (.int .i32 x.m2) rfl);(have n15:=TN.out.at 15 (.int .i64 x.s2) rfl);(have n16:=TN.out.at 16 (.int .i8 x.z2) rfl);(have n17:=TN.out.at 17 (.int .i8 x.lo) rfl);(have n18:=TN.out.at 18 (.int .i8 x.hi) rfl)) | (go_at_call 74;(with_reducible refine (HRB.out _).mono ?_);rintro e w1 ⟨rfl,hb⟩;(replace TN:=hid (TN.out.below HS.out hb));(replace HB:=hid (HB.out.trans (hb.mono HB.out.size)));(replace HS:=hid (Nat.lt_of_lt_of_le HS.out hb.size));clear hb n0 n11 n12 n13 n14 n15 n16 n17 n18;(have n0:=TN.out.at 0 (.int .i64 x.kd) rfl);(have n11:=TN.out.at 11 (.int .i32 x.m1) rfl);(have n12:=TN.out.at 12 (.int .i64 x.s1) rfl);(have n13:=TN.out.at 13 (.int .i8 x.z1) rfl);(have n14:=TN.out.at 14 (.int .i32 x.m2) rfl);(have n15:=TN.out.at 15 (.int .i64 x.s2) rfl);(have n16:=TN.out.at 16 (.int .i8 x.z2) rfl);(have n17:=TN.out.at 17 (.int .i8 x.lo) rfl);(have n18:=TN.out.at 18 (.int .i8 x.hi) rfl)))
      go_ret
      exact⟨by rw [HZ2.out];rfl,HB.out⟩
end CKind
end
section
namespace CPool
open Go Go.ChangeShapes Go.WideShapes Go.ChangeAt Go.RowKit Go.Shelf
open Plain CSat CShape CTensor CConv
attribute [local go_sem] Oper.semAt_some
def sumL (l:List Int):Int:=l.foldl (· + ·) 0
theorem sumL_snoc (l:List Int) (x:Int):sumL (l ++ [x])=sumL l+x:=by simp [sumL]
theorem sumL_psum (l:List Int):∀ k,k≤l.length→sumL (l.take k)=psum (fun i=>l.getD i 0) k
 | 0,_=>rfl
 | k+1,h=>by
   have e:l.take (k+1)=l.take k ++ [l[k]]:=by rw [List.take_add_one,List.getElem?_eq_getElem (by omega)];rfl
   rw [e,sumL_snoc,sumL_psum l k (by omega)]
   show _=psum (fun i=>l.getD i 0) k+l.getD k 0
   rw [List.getD_eq_getElem?_getD,List.getElem?_eq_getElem (by omega)];rfl
theorem sumL_bd (l:List Int) (h:∀ x∈l, -128≤x∧x≤127) : -(128 * (l.length:Int))≤sumL l∧sumL l≤128 * (l.length:Int):=by
 have key:∀ (l:List Int) (a:Int),(∀ x∈l, -128≤x∧x≤127)→a - 128 * (l.length:Int)≤l.foldl (· + ·) a∧l.foldl (· + ·) a≤a+128 * (l.length:Int):=by
  intro l
  induction l with
  | nil=>intro a _;simp
  | cons y l ih =>
    intro a h
    obtain⟨y1,y2⟩:=h y (by simp)
    obtain⟨i1,i2⟩:=ih (a+y) (fun x hx=>h x (by simp [hx]))
    simp only [List.foldl_cons,List.length_cons]
    omega
 have:=key l 0 h
 unfold sumL
 omega
theorem meanZ_sum (l:List Int):meanZ l=IntKind.i8.wrap (nearZ (sumL l) l.length):=by
 unfold meanZ
 have h:=sumL_psum l l.length (le_refl _)
 rw [List.take_length] at h
 rw [h]
theorem meanC_to (g b off:Nat) (H W C:Int) (N c kk o d:Nat) (top left:Int) (G:Nat→Int) (hbz:∀ k, -128≤G k∧G k≤127) (ht:tensB H W C N=true) (hd:C=(d:Int)) (ho:o < d) (hk7:kk≤7)
  (t1 : -1000≤top) (t2:top≤1000) (l1 : -1000≤left) (l2:left≤1000) (R:Int) (hR:meanZ ((rowsI H W C top left kk o kk).map G)=R)
  (w:World) (hg:g+4 < w.heap.size) (hb:b < w.heap.size) (hcap:CapAt g H W C (some ⟨b,off,none⟩) N c (kk:Int) top left (o:Int) w) (hc:∀ j,j < N→w.cell? ⟨b,off+j,none⟩=some (.int .i8 (G j))) :
  Calls Tryz.prog 83 #[.func (.func 132) #[] #[.pointer (some ⟨g+1,0,none⟩),.pointer (some ⟨g,0,none⟩),.pointer (some ⟨g+2,0,none⟩),.pointer (some ⟨g+3,0,none⟩),.pointer (some ⟨g+4,0,none⟩)]] w fun e w'=>e=.returned (.int .i8 R)∧Below w.heap.size w w':=by
 have hR2:IntKind.i8.wrap (nearZ (sumL ((rowsI H W C top left kk o kk).map G)) ((rowsI H W C top left kk o kk).length:Int))=R:=by
  rw [← hR,meanZ_sum,List.length_map]
 have HR:=hid hR2
 have HBZ:=hid hbz
 have hlw:=rowsI_len H W C top left kk o kk
 have hkk:kk * kk≤49:=Nat.le_trans (Nat.mul_le_mul hk7 hk7) (by omega)
 have hll:(rowsI H W C top left kk o kk).length≤49:=Nat.le_trans hlw hkk
 have hall:∀ pre:List Nat,∀ x∈pre.map G, -128≤x∧x≤127:=by
  intro pre x hx
  obtain⟨k, -,rfl⟩:=List.mem_map.1 hx
  exact hbz k
 have HALL:=hid hall
 clear hR hR2 hlw hkk hall
 refine (callsIn_wide (n:=5)).1 ?_
 refine callsIn_of_wp_marks Tryz.func83 rfl trivial ?_ rfl
 simp only [Tryz.ntmps83,List.size_toArray,List.length_cons,List.length_nil,Nat.reduceAdd,Nat.reduceSub,Array.replicate_succ,Array.replicate_zero,List.push_toArray,List.append_toArray,List.nil_append,List.cons_append]
 refine wpIn_wide.2 ?_
 go_wp2_with fail
 have bX:=(Boxed.new w 3 (.int .i64 0)).alloc (.cells #[.int .i64 0] 3)
 have bM:=Boxed.new (w.alloc (.cells #[.int .i64 0] 3)) 3 (.int .i64 0)
 rw [World.size_alloc] at bM
 have hbW:Below w.heap.size w ((w.alloc (.cells #[.int .i64 0] 3)).alloc (.cells #[.int .i64 0] 3)):=((Below.refl _ _).alloc (le_refl _) _).alloc (by simp) _
 have hsW:((w.alloc (.cells #[.int .i64 0] 3)).alloc (.cells #[.int .i64 0] 3)).heap.size=w.heap.size+2:=by simp
 generalize (w.alloc (.cells #[.int .i64 0] 3)).alloc (.cells #[.int .i64 0] 3)=W1 at bX bM hbW hsW ⊢
 refine (wpIn_wide (n:=5)).1 ?_
 refine wpIn_rangeFunc_ownG (F:=Fence.wide) (n:=5) rfl (by omega) (gf:=132) (lb:=#[.pointer (some ⟨g+1,0,none⟩),.pointer (some ⟨g,0,none⟩),.pointer (some ⟨g+2,0,none⟩),.pointer (some ⟨g+3,0,none⟩),.pointer (some ⟨g+4,0,none⟩)]) rfl trivial (enters_of Tryz.func132 (by kernel_rfl) rfl)
  (seq_window (5 - 1) (by omega) g w.heap.size b off H W C N c kk o d top left G ht hd ho hk7 t1 t2 l1 l2 hg hb W1 (by omega) (hcap.below hg hbW) (fun j hj=>(hbW.cell (p:=⟨b,off+j,none⟩) hb).trans (hc j hj))) belowK_t (belowK_b (by omega)) (Below.refl _ _) (fun _=>rfl)
  (fun pre W=>(Boxed W w.heap.size 3 (.int .i64 (sumL (pre.map G)))∧Boxed W (w.heap.size+1) 3 (.int .i64 (pre.length:Int)))∧Below w.heap.size w W)
  (fun _ _ _=>False)
  (OwnFrom.and (OwnFrom.and (Own.from (boxed_own w.heap.size 3 (fun pre:List Nat=>(.int .i64 (sumL (pre.map G))))) _) (Own.from (boxed_own (w.heap.size+1) 3 (fun pre:List Nat=>.int .i64 (pre.length:Int))) _)) (ownFrom_below (by omega) (by omega)))
  (fun _ _ _ _ _ hs _ _=>hs)
  ⟨⟨bX,bM⟩,hbW⟩
  ?a1 ?assign ?body ?done ?stop
 case assign =>
  intro l x W K hK
  gi_wp2
  exact hK
 case body =>
  rintro l pre x W ⟨⟨hX,hM⟩,hB⟩ hlt
  have hs:=sumL_snoc (pre.map G) (G x)
  have hm:(pre ++ [x]).map G=pre.map G ++ [G x]:=by simp
  have hbd:=sumL_bd _ (HALL.out pre)
  rw [List.length_map] at hbd
  rw [← hm] at hs
  obtain⟨y1,y2⟩:=HBZ.out x
  clear hm
  obtain⟨m0,hm0⟩:∃ m0,sumL (pre.map G)=m0:=⟨_,rfl⟩
  rw [hm0] at hs hX hbd
  generalize G x=y at hs y1 y2 ⊢
  have w1:IntKind.i64.wrap y=y:=IntWalk.i64_in _ (by omega)
  have w2:IntKind.i64.wrap (m0+y)=m0+y:=IntWalk.i64_in _ (by omega)
  have w3:IntKind.i64.wrap ((pre.length:Int)+1)=(pre.length:Int)+1:=IntWalk.i64_in _ (by omega)
  have hpl:(((pre ++ [x]).length:Nat):Int)=(pre.length:Int)+1:=by simp
  have HPL:=hid hpl
  generalize (pre.length:Int)=pl at w3 hM HPL ⊢
  have HS:=hid hs
  have HX:=hid hX
  have HM:=hid hM
  have HB:=hid hB
  have hcx:=hX.cell
  have hfx:=hX.frozen
  have hcm:=hM.cell
  have hfm:=hM.frozen
  clear hs hX hM hB hm0 hbz bX bM hbW hcap hc ht hpl hbd
  gi_wp2
  exact⟨((KeepsOthers.setCell _ _ _).trans (KeepsOthers.setCell _ _ _)).from _,((Below.refl _ _).setCell (p:=⟨w.heap.size,0,none⟩) (le_refl _) _).setCell (p:=⟨w.heap.size+1,0,none⟩) (show w.heap.size≤w.heap.size+1 by omega) _,
   ⟨by rw [HS.out];exact (HX.out.set _).other (by omega) _,by rw [HPL.out];exact (HM.out.other (by omega) _).set _⟩,(HB.out.setCell (p:=⟨w.heap.size,0,none⟩) (le_refl _) _).setCell (p:=⟨w.heap.size+1,0,none⟩) (show w.heap.size≤w.heap.size+1 by omega) _⟩
 case done =>
  rintro D ls Wd hD rfl ⟨⟨hX,hM⟩,hB⟩ hK
  have hbd:=sumL_bd _ (HALL.out (rowsI H W C top left kk o kk))
  rw [List.length_map] at hbd
  obtain⟨R0,hR0⟩:∃ R0,nearZ (sumL ((rowsI H W C top left kk o kk).map G)) ((rowsI H W C top left kk o kk).length:Int)=R0:=⟨_,rfl⟩
  have hwr:=HR.out
  rw [hR0] at hwr
  generalize sumL ((rowsI H W C top left kk o kk).map G)=s0 at hX hbd hR0
  generalize hml:((rowsI H W C top left kk o kk).length:Int)=m0 at hM hbd hR0
  have hm9:0≤m0∧m0≤49:=by omega
  obtain⟨hm1,hm2⟩:=hm9
  have hcx:=hX.cell
  have hcm:=hM.cell
  have HB:=hid hB
  have HK:=hid hK
  have HD:=hid hD
  have HR0:=hid hR0
  have hs1 : -4611686018427387904≤s0:=by omega
  have hs2:s0≤4611686018427387904:=by omega
  have hm3:m0≤9223372036854775807:=by omega
  clear hX hM hB hK hD hbz bX bM hbW hcap hc ht hml hbd hR0 hm1 hm2
  go_wp2_with (go_at_call 84;(refine (near_to s0 m0 hs1 hs2 hm3 R0 HR0.out _).mono ?_);rintro e w1 ⟨rfl,q1,rfl⟩)
  have HK2:(Wd.drewN q1).heap[D]?=some (.deferred (some [])):=HK.out
  refine⟨by simp,.inl ⟨_,_,rfl,run_takeDeferred HK2,?_⟩⟩
  refine⟨.int .i8 R,?_,rfl,(Kit.below_drewN HB.out _).trans (belowK_b (w:=w) (le_refl _) _ D _ _ (by have:=HD.out;omega) HK2 rfl rfl)⟩
  simp [results,Tryz.f83,go_sem]
 case stop =>
  rintro D c pre W _ _ h _
  exact h.elim
end CPool
end
section
namespace CPool
open Go Go.ChangeShapes Go.WideShapes Go.ChangeAt Go.RowKit
open Plain CSat CShape CTensor CConv
theorem eachAvg_yes (H W C:Int) (A:Option Addr) (zs:List Int) (n c:Nat) (hn:zs.length=n) (ht:tensB H W C n=true) (hz:I8b zs) (x0 x1 x2 x8 x11 x12 x13 x14 x15 x16 x17 x18:Value) (K S P O Z:Int) (WA BA:Option Addr) (nW cW nB cB:Nat) (a b d kk:Nat) (he:zaz H W C K S P C=0) (ha:zae H K S P=(a:Int)) (hb:zae W K S P=(b:Int)) (hd:C=(d:Int)) (hk:K=(kk:Int)) (N:Nat) (hN:a * b * d=N)
  (w:World) (hr:Kit.Rd w w.heap.size A (I8s zs)) :
  Calls Tryz.prog 81 #[.agg #[.int .i64 H,.int .i64 W,.int .i64 C,.slice A n c],.agg #[x0,x1,x2,.int .i64 K,.int .i64 S,.int .i64 P,.int .i64 O,.int .i8 Z,x8,.slice WA nW cW,.slice BA nB cB,x11,x12,x13,x14,x15,x16,x17,x18],.func (.func 83) #[] #[]] w (MadeP w (a:Int) (b:Int) C N (rowL (gridF b d (meanF zs H W C S P kk)) N) (.int .i64 0)):=by
 obtain⟨hs0,har1,har2, -, -,hsr⟩:=za9 he
 obtain⟨-, -,k1,k2,st1,st2,pd1,pd2, -⟩:=za7 har1
 have hS:za8 H W C K S P C=#[.int .i64 (a:Int),.int .i64 (b:Int),.int .i64 C]:=by unfold za8;rw [he,if_pos rfl,ha,hb]
 rw [ha,hb] at hsr
 obtain⟨q1,q2,q3,q4,q5,q6,q7⟩:=zab hsr
 have hNI:(a:Int) * (b:Int) * C=(N:Int):=by rw [hd, ← hN];simp
 have hN2:N≤1024:=by rw [hNI] at q7;omega
 have hel:zay (a:Int) (b:Int) C=(N:Int):=by rw [zaw hsr];exact hNI
 obtain⟨F,hF⟩:∃ F,F=gridF b d (meanF zs H W C S P kk):=⟨_,rfl⟩
 have hFF:∀ i j k:Nat,j < b→k < d→F ((i * b+j) * d+k)=meanF zs H W C S P kk i j k:=fun i j k hj hk=>by rw [hF,grid_at b d _ hj hk]
 rw [← hF]
 have hn1:0 < n:=by
  obtain⟨hs1,hn1⟩:zad H W C=true∧(n:Int)=H * W * C:=by simpa [tensB] using ht
  obtain⟨g1,g2,g3,g4,g5,g6,g7⟩:=zab hs1
  have:0 < H * W * C:=Int.mul_pos (Int.mul_pos (by omega) (by omega)) (by omega)
  omega
 obtain⟨bb,ob,rfl,hbb,hcb⟩:=zav hr (j:=0) (by omega)
 obtain⟨i0,hi0,hi1,hi2,hi3⟩:=zbz info_i8p
 have hmk:∀ w:World,(Instr.makeSlice 25 (.int .i64 0) (.int .i64 (N:Int))).run Tryz.prog w=.ok (.slice (some ⟨w.heap.size,0,none⟩) 0 N) (w.alloc (.cells (madeCells #[.int .i8 0] N) 39)):=fun w=>by
  have h:=run_make (P:=Tryz.prog) w 25 39 i0 (.int .i8 0) Tryz.underlying25 hi0 hi1 .i64 .i64 0 N (Int.le_refl _) (by omega) (by rw [hi3];omega) (by omega)
  rw [hi2,Nat.mul_one,show (Value.int .i8 0).cells=#[.int .i8 0] from rfl] at h
  simpa using h
 have hkk1:1≤kk:=by omega
 have hkk7:kk≤7:=by omega
 subst hk
 have HT:=hid ht
 have HE:=hid he
 have HS:=hid hS
 have HEL:=hid hel
 have HFF:=hid hFF
 have HN:=hid hn
 have HZ:=hid hz
 have HD:=hid hd
 have HNN:=hid hN
 have HCB:=hid hcb
 clear hcb ht he hS hel hFF hn hz hd hN hr hs0 har1 har2 hsr q7 hNI hF ha hb
 go_enter Tryz.func81,Tryz.ntmps81
 go_wp2_with (first
  | (go_at_call 13
     have hal:Below w.heap.size w (((w.alloc (.cells #[.int .i64 H,.int .i64 W,.int .i64 C,.slice (some ⟨bb,ob,none⟩) n c] 27)).alloc (.cells #[x0,x1,x2,.int .i64 (kk:Int),.int .i64 S,.int .i64 P,.int .i64 O,.int .i8 Z,x8,.slice WA nW cW,.slice BA nB cB,x11,x12,x13,x14,x15,x16,x17,x18] 44)).alloc (.cells #[.int .i64 0,.int .i64 0,.int .i64 0,.slice none 0 0] 27)):=(((Below.refl _ _).alloc (by first | exact le_refl _ | (simp;done) | (simp;omega)) _).alloc (by first | exact le_refl _ | (simp;done) | (simp;omega)) _).alloc (by first | exact le_refl _ | (simp;done) | (simp;omega)) _
     refine (zac H W C (some ⟨bb,ob,none⟩) n c true HT.out _).mono ?_
     rintro e w1 ⟨rfl,hb⟩
     have hh:Below w.heap.size w w1:=hal.trans (hb.mono hal.size)
     have qTB:=(zbd H W C (some ⟨bb,ob,none⟩) n c 27) w
     try simp only [World.size_alloc] at qTB
     have TB:=hid ((qTB.below (B':=w.heap.size+1) (by omega) ((((Below.refl _ _).alloc (by first | exact le_refl _ | (simp;done) | (simp;omega)) _).alloc (by first | exact le_refl _ | (simp;done) | (simp;omega)) _).mono (by simp))).below (by first | (simp;done) | (simp;omega)) hb)
     have yTB:w.heap.size < w1.heap.size:=by have:=hb.size;simp at this;omega
     clear qTB
     have qTN:=(zai.new x0 x1 x2 x8 x11 x12 x13 x14 x15 x16 x17 x18 (kk:Int) S P O Z WA BA nW cW nB cB 44) (w.alloc (.cells #[.int .i64 H,.int .i64 W,.int .i64 C,.slice (some ⟨bb,ob,none⟩) n c] 27))
     try simp only [World.size_alloc] at qTN
     have TN:=hid ((qTN.below (B':=w.heap.size+2) (by omega) (((Below.refl _ _).alloc (by first | exact le_refl _ | (simp;done) | (simp;omega)) _).mono (by simp))).below (by first | (simp;done) | (simp;omega)) hb)
     have yTN:w.heap.size+1 < w1.heap.size:=by have:=hb.size;simp at this;omega
     clear qTN
     have qFR:=(za5 27) ((w.alloc (.cells #[.int .i64 H,.int .i64 W,.int .i64 C,.slice (some ⟨bb,ob,none⟩) n c] 27)).alloc (.cells #[x0,x1,x2,.int .i64 (kk:Int),.int .i64 S,.int .i64 P,.int .i64 O,.int .i8 Z,x8,.slice WA nW cW,.slice BA nB cB,x11,x12,x13,x14,x15,x16,x17,x18] 44))
     try simp only [World.size_alloc] at qFR
     have FR:=hid (qFR.below (by first | (simp;done) | (simp;omega)) hb)
     have yFR:w.heap.size+2 < w1.heap.size:=by have:=hb.size;simp at this;omega
     clear qFR
     have HBW:Hid (Below w.heap.size w w1):=hid hh
     obtain⟨tbp0,tbp1,tbp2,tbp3⟩:=TB.out
     have n3:=TN.out.at 3 _ rfl
     have n4:=TN.out.at 4 _ rfl
     have n5:=TN.out.at 5 _ rfl
     clear hb hh hal)
  | (go_at_call 78
     have hal:Below w1.heap.size w1 w1:=Below.refl _ _
     refine (zbf H W C (kk:Int) S P C 0 _ HE.out HS.out _).mono ?_
     rintro e w2 ⟨rfl,hb⟩
     have hh:Below w1.heap.size w1 w2:=hal.trans (hb.mono hal.size)
     replace TB:=hid (TB.out.below yTB hh)
     replace yTB:=Nat.lt_of_lt_of_le yTB hh.size
     replace TN:=hid (TN.out.below yTN hh)
     replace yTN:=Nat.lt_of_lt_of_le yTN hh.size
     replace FR:=hid (FR.out.below yFR hh)
     replace yFR:=Nat.lt_of_lt_of_le yFR hh.size
     replace HBW:=hid (HBW.out.trans (hh.mono HBW.out.size))
     clear tbp0 tbp1 tbp2 tbp3 n3 n4 n5
     have hg2:w.heap.size+3≤w2.heap.size:=yFR
     obtain⟨tbp0,tbp1,tbp2,tbp3⟩:=TB.out
     have n3:=TN.out.at 3 _ rfl
     have n4:=TN.out.at 4 _ rfl
     have n5:=TN.out.at 5 _ rfl
     clear hb hh hal)
  | (go_at_call 25
     have hal:Below w2.heap.size w2 (w2.alloc (.cells #[.int .i64 (a:Int),.int .i64 (b:Int),.int .i64 C] 24)):=(Below.refl _ _).alloc (by first | exact le_refl _ | (simp;done) | (simp;omega)) _
     refine (zbk (a:Int) (b:Int) C N HEL.out _).mono ?_
     rintro e w3 ⟨rfl,hb⟩
     have hh:Below w2.heap.size w2 w3:=hal.trans (hb.mono hal.size)
     have qTS:=(zba (a:Int) (b:Int) C 24) w2
     try simp only [World.size_alloc] at qTS
     have TS:=hid (qTS.below (by first | (simp;done) | (simp;omega)) hb)
     have yTS:w2.heap.size < w3.heap.size:=by have:=hb.size;simp at this;omega
     clear qTS
     replace TB:=hid (TB.out.below yTB hh)
     replace yTB:=Nat.lt_of_lt_of_le yTB hh.size
     replace TN:=hid (TN.out.below yTN hh)
     replace yTN:=Nat.lt_of_lt_of_le yTN hh.size
     replace FR:=hid (FR.out.below yFR hh)
     replace yFR:=Nat.lt_of_lt_of_le yFR hh.size
     replace HBW:=hid (HBW.out.trans (hh.mono HBW.out.size))
     clear tbp0 tbp1 tbp2 tbp3 n3 n4 n5
     obtain⟨tbp0,tbp1,tbp2,tbp3⟩:=TB.out
     have n3:=TN.out.at 3 _ rfl
     have n4:=TN.out.at 4 _ rfl
     have n5:=TN.out.at 5 _ rfl
     obtain⟨tsp0,tsp1,tsp2⟩:=TS.out
     clear hb hh hal))
 have hal:Below w3.heap.size w3 (w3.alloc (.cells (madeCells #[.int .i8 0] N) 39)):=(Below.refl _ _).alloc (le_refl _) _
 have h63:w.heap.size+3≤w2.heap.size:=hg2
 have hOA:Hid (OfAt w H W C (some ⟨bb,ob,none⟩) n c x0 x1 x2 x8 x11 x12 x13 x14 x15 x16 x17 x18 (kk:Int) S P O Z WA BA nW cW nB cB (a:Int) (b:Int) C w2.heap.size (w3.alloc (.cells (madeCells #[.int .i8 0] N) 39))):=hid ⟨TB.out.below yTB hal,TN.out.below yTN hal,FR.out.below yFR hal,TS.out.below yTS hal,HBW.out.trans (hal.mono HBW.out.size),by simp;omega⟩
 have hW:Hid ((w3.alloc (.cells (madeCells #[.int .i8 0] N) 39)).ownsRow (w2.heap.size+1) 39 1 (.slice (some ⟨w3.heap.size,0,none⟩) 0 N) 0 (I8s (rowL F 0))):=hid (World.ownsRow_made (e:=39) w3 _ N (by omega) (by unfold maxLen;omega) (by rw [size_madeCells];simp))
 clear TB TN FR TS yTB yTN yFR yTS hal tbp0 tbp1 tbp2 tbp3 n3 n4 n5 tsp0 tsp1 tsp2 HBW hg2
 generalize (w3.alloc (.cells (madeCells #[.int .i8 0] N) 39))=Wm at hOA hW ⊢
 generalize w2.heap.size=g6 at hOA hW h63 ⊢
 generalize (⟨w3.heap.size,0,none⟩:Addr)=ad at hW ⊢
 go_loopw [10,42] (fun v u wr=>∃ i:Nat,i≤a∧u=.int .i64 i∧Hid (OfAt w H W C (some ⟨bb,ob,none⟩) n c x0 x1 x2 x8 x11 x12 x13 x14 x15 x16 x17 x18 (kk:Int) S P O Z WA BA nW cW nB cB (a:Int) (b:Int) C g6 wr)∧Hid (wr.ownsRow (g6+1) 39 1 v (i * b * d) (I8s (rowL F (i * b * d))))) (fun _ u _=>a - (intOf u).toNat)
 case atStart=>exact⟨0,Nat.zero_le _,rfl,hOA,by simpa using hW⟩
 case round =>
  obtain⟨i,hi,rfl,hA0,hW0⟩:=hrel
  clear hOA hW
  obtain⟨Av0,cv0,rfl, -, -, -⟩:=Kit.zam hW0.out
  obtain⟨-, -, -,⟨s1,s2,s3⟩, -, -⟩:=hA0.out
  by_cases hlt:i < a
  ·have hiI:(i:Int) < (a:Int):=by omega
   go_wp2_with fail
   go_loopw [10,47] (fun v u wr=>∃ j:Nat,j≤b∧u=.int .i64 j∧Hid (OfAt w H W C (some ⟨bb,ob,none⟩) n c x0 x1 x2 x8 x11 x12 x13 x14 x15 x16 x17 x18 (kk:Int) S P O Z WA BA nW cW nB cB (a:Int) (b:Int) C g6 wr)∧Hid (wr.ownsRow (g6+1) 39 1 v ((i * b+j) * d) (I8s (rowL F ((i * b+j) * d))))) (fun _ u _=>b - (intOf u).toNat)
   case atStart=>exact⟨0,Nat.zero_le _,rfl,hA0,by simpa using hW0⟩
   case round =>
    obtain⟨j,hj,rfl,hA1,hW1⟩:=hrel
    clear hA0 hW0 s1 s2 s3
    obtain⟨Av1,cv1,rfl, -, -, -⟩:=Kit.zam hW1.out
    obtain⟨-, -, -,⟨s1,s2,s3⟩, -, -⟩:=hA1.out
    by_cases hltj:j < b
    ·have hjI:(j:Int) < (b:Int):=by omega
     obtain⟨o,ho⟩:∃ o,(i * b+j) * d=o:=⟨_,rfl⟩
     rw [ho] at hW1 ⊢
     have HOO:=hid ho
     clear ho
     go_wp2_with fail
     go_loopw [10,52] (fun v u wr=>∃ k:Nat,k≤d∧u=.int .i64 k∧Hid (OfAt w H W C (some ⟨bb,ob,none⟩) n c x0 x1 x2 x8 x11 x12 x13 x14 x15 x16 x17 x18 (kk:Int) S P O Z WA BA nW cW nB cB (a:Int) (b:Int) C g6 wr)∧Hid (wr.ownsRow (g6+1) 39 1 v (o+k) (I8s (rowL F (o+k))))) (fun _ u _=>d - (intOf u).toNat)
     case atStart=>exact⟨0,Nat.zero_le _,rfl,hA1,hW1⟩
     case round =>
      obtain⟨k,hk,rfl,hA2,hW2⟩:=hrel
      clear hA1 hW1 s1 s2 s3
      obtain⟨Av,cv,rfl, -, -, -⟩:=Kit.zam hW2.out
      obtain⟨hbx,hnd, -,⟨s1,s2,s3⟩,hbw,hsz⟩:=hA2.out
      have HBW:=hid hbw
      clear hbw
      by_cases hltk:k < d
      ·have hkI:(k:Int) < C:=by have:=HD.out;omega
       have hk0:(0:Int)≤(k:Int):=by omega
       have hom:o+k < N:=by rw [← HOO.out, ← HNN.out];exact at_lt hlt hltj hltk
       obtain⟨hs,hhs⟩:∃ hs,(i:Int) * S=hs:=⟨_,rfl⟩
       obtain⟨vs,hvs⟩:∃ vs,(j:Int) * S=vs:=⟨_,rfl⟩
       have b1:0≤hs∧hs≤64:=by
        rw [← hhs]
        exact⟨Int.mul_nonneg (by omega) (by omega),Int.le_trans (Int.mul_le_mul (show (i:Int)≤16 by omega) st2 (by omega) (by omega)) (by omega)⟩
       have b2:0≤vs∧vs≤64:=by
        rw [← hvs]
        exact⟨Int.mul_nonneg (by omega) (by omega),Int.le_trans (Int.mul_le_mul (show (j:Int)≤16 by omega) st2 (by omega) (by omega)) (by omega)⟩
       have e1:IntKind.i64.wrap hs=hs:=IntWalk.i64_in _ (by omega)
       have e2:IntKind.i64.wrap vs=vs:=IntWalk.i64_in _ (by omega)
       obtain⟨top,htop⟩:∃ top,hs - P=top:=⟨_,rfl⟩
       obtain⟨left,hleft⟩:∃ left,vs - P=left:=⟨_,rfl⟩
       have e3:IntKind.i64.wrap (hs - P)=top:=by rw [IntWalk.i64_in _ (by omega),htop]
       have e4:IntKind.i64.wrap (vs - P)=left:=by rw [IntWalk.i64_in _ (by omega),hleft]
       have hF1:=HFF.out i j k hltj hltk
       unfold meanF windowL at hF1
       rw [HOO.out,hhs,hvs,htop,hleft] at hF1
       obtain⟨x,hx⟩:∃ x,F (o+k)=x:=⟨_,rfl⟩
       rw [hx] at hF1
       have HX1:Hid (meanZ ((rowsI H W C top left kk k kk).map (fun q=>zs.getD q 0))=x):=hid (by rw [← rowsI_L];exact hF1.symm)
       have HXX:=hid hx
       have t1 : -1000≤top:=by omega
       have t2:top≤1000:=by omega
       have l1 : -1000≤left:=by omega
       have l2:left≤1000:=by omega
       obtain⟨k0,k1_,k2_,k3_⟩:=hbx
       have n3:=hnd.at 3 _ rfl
       have n4:=hnd.at 4 _ rfl
       have n5:=hnd.at 5 _ rfl
       clear hx hF1 htop hleft hnd
       go_wp2_with (first
        | (go_at_call 115;(refine (pwin_to H W C (some ⟨bb,ob,none⟩) n c (kk:Int) top left (k:Int) _).mono ?_);(rintro e w4 ⟨rfl,hcap,hb4,hs4⟩;have HCAP:=hid hcap;have HB4:=hid hb4;have HS4:=hid hs4;have hz4:w.heap.size≤w4.heap.size:=Nat.le_trans HBW.out.size hb4.size;clear hcap hb4 hs4))
        | (go_at_call 83;(refine (meanC_to wr.heap.size bb ob H W C n c kk k d top left (fun q=>zs.getD q 0) HZ.out HT.out HD.out hltk hkk7 t1 t2 l1 l2 x HX1.out w4 (by have:=HS4.out;omega) (by omega) HCAP.out (fun j hj=>((HBW.out.trans (HB4.out.mono HBW.out.size)).cell (p:=⟨bb,ob+j,none⟩) hbb).trans (HCB.out j (by rw [HN.out];exact hj)))).mono ?_);(rintro e w5 ⟨rfl,hb5⟩;have HB5:=hid ((HB4.out.trans (hb5.mono HB4.out.size)).alloc (Nat.le_trans HB4.out.size hb5.size) (.cells #[.int .i8 x] 39));have HO5:=hid (Kit.own_below hW2.out HB5.out);have hz5:g6+1≤(w5.alloc (.cells #[.int .i8 x] 39)).heap.size:=Nat.le_trans hsz HB5.out.size;clear hb5))
        | (at_builtin;refine Kit.zal _ rfl (.tmp 55) (.tmp 77) _ rfl (g6+1) 39 i0 (.int .i8 0) 1 1 Tryz.underlying25 hi0 hi1 hi2 hi3 rfl (by decide) _ (o+k) (I8s (rowL F (o+k))) rfl HO5.out _ _ 1 1 [.int .i8 x] rfl rfl (Kit.Rd.new _ _ _ (lt_succ_self _)) (Kit.zbj .i8 [x]) (by unfold maxLen;omega) (by omega) hz5 ?_;(intro v6 w6 hown6 hg7 _;obtain⟨A6,c6,rfl, -, -, -⟩:=Kit.zam hown6;have hb6:Below (g6+1) _ w6:=(Below.refl _ _).grown hg7 hz5 (Kit.zaj HO5.out);rw [rowL_succ8 F (o+k) x HXX.out] at hown6;have HW6:=hid hown6;have HA6:=hid ((hA2.out.below h63 (show g6 < wr.heap.size by omega) HB5.out).below h63 (lt_succ_self _) hb6);clear hown6 hg7 hb6)))
       go_roundw
       case rel=>exact⟨k+1,by omega,by go_num,HA6,HW6⟩
       case measure=>simp [intOf];omega
      ·obtain rfl:k=d:=by omega
       have hkI:¬ (k:Int) < C:=by have:=HD.out;omega
       have e:(i * b+(j+1)) * k=o+k:=by rw [← HOO.out, ← Nat.add_assoc,Nat.add_mul _ 1,Nat.one_mul]
       have hW3:Hid (wr.ownsRow (g6+1) 39 1 (.slice Av (o+k) cv) ((i * b+(j+1)) * k) (I8s (rowL F ((i * b+(j+1)) * k)))):=by rw [e];exact hW2
       go_wp2_with fail
       go_roundw
       case rel=>exact⟨j+1,by omega,by go_num,hA2,hW3⟩
       case measure=>simp [intOf];omega
    ·obtain rfl:j=b:=by omega
     have e:(i+1) * j * d=(i * j+j) * d:=by rw [Nat.add_mul i 1,Nat.one_mul]
     have hW3:Hid (wr.ownsRow (g6+1) 39 1 (.slice Av1 ((i * j+j) * d) cv1) ((i+1) * j * d) (I8s (rowL F ((i+1) * j * d)))):=by rw [e];exact hW1
     go_wp2_with fail
     go_roundw
     case rel=>exact⟨i+1,by omega,by go_num,hA1,hW3⟩
     case measure=>simp [intOf];omega
  ·obtain rfl:i=a:=by omega
   rw [HNN.out] at hW0
   clear s1 s2 s3
   obtain⟨-, -,⟨⟨z0,z1,z2,z3⟩,z4,z5,z6,z7⟩,⟨s1,s2,s3⟩,hbw,hsz⟩:=hA0.out
   have HBW:=hid hbw
   clear hbw
   rw [HNN.out]
   go_wp2_with fail
   refine bodyPost_ret (Kit.zaa rfl _ _ (w.heap.size+2) 0 [.int .i64 (i:Int),.int .i64 (b:Int),.int .i64 C,.slice Av0 N cv0] _ rfl (zan (by go_cell) (by go_cell) (by go_cell) (by go_cell)) Tryz.underlying27 rfl (by kernel_rfl)) rfl ?_
   refine⟨_,rfl,Kit.zah (za3 hW0.out ?_) ?_,?_⟩
   any_goals (first | omega | (simp;done) | (simp;omega))
   exact (((HBW.out.setCell (p:=⟨w.heap.size+2,0,none⟩) (by simp) _).setCell (p:=⟨w.heap.size+2,1,none⟩) (by simp) _).setCell (p:=⟨w.heap.size+2,2,none⟩) (by simp) _).setCell (p:=⟨w.heap.size+2,3,none⟩) (by simp) _
end CPool
end
end Go.Proofs.YtahekhpeomcfjaaGreatDoor
