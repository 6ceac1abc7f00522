/- Texts of this seat, one behind the other: PoolAvg, ActPut. -/
import Derived.Laws.MakeOwn
import Derived.Deep.CutRange
import Derived.Test.YtkpngknbiecdiaaGreatDoorGB5
import Derived.Test.YtkpngknbiecdiaaGreatDoorGB28
import Derived.Test.YtkpngknbiecdiaaGreatDoorGB31
import Derived.Test.YtkpngknbiecdiaaGreatDoorGB32
import Derived.Test.YtkpngknbiecdiaaGreatDoorGB34
import Derived.Test.YtkpngknbiecdiaaGreatDoorGB39
import Derived.Test.YtkpngknbiecdiaaGreatDoorGB46
section
namespace Go.Proofs.YtkpngknbiecdiaaGreatDoor.CPool
open Go Go.ChangeShapes Go.WideShapes Go.ChangeAt Go.RowKit Go.Shelf
open Plain CSat CShape CTensor CConv
set_option linter.unusedVariables false
attribute [local go_sem] Oper.semAt_some
def sumL (l:List Int):Int:=l.foldl (· + ·) 0
theorem sumL_snoc (l:List Int) (x:Int):sumL (l ++ [x])=sumL l+x:=by simp [sumL]
theorem sumL_psum (l:List Int):∀ k,k≤l.length→sumL (l.take k)=psum (fun i=>l.getD i 0) k
 | 0,_=>rfl
 | k+1,h=>by
   have e:l.take (k+1)=l.take k ++ [l[k]]:=by rw [List.take_add_one,List.getElem?_eq_getElem (by omega)];rfl
   rw [e,sumL_snoc,sumL_psum l k (by omega)]
   show _=psum (fun i=>l.getD i 0) k+l.getD k 0
   rw [List.getD_eq_getElem?_getD,List.getElem?_eq_getElem (by omega)];rfl
theorem sumL_bd (l:List Int) (h:∀ x∈l, -128≤x∧x≤127) : -(128 * (l.length:Int))≤sumL l∧sumL l≤128 * (l.length:Int):=by
 have key:∀ (l:List Int) (a:Int),(∀ x∈l, -128≤x∧x≤127)→a - 128 * (l.length:Int)≤l.foldl (· + ·) a∧l.foldl (· + ·) a≤a+128 * (l.length:Int):=by
  intro l
  induction l with
  | nil=>intro a _;simp
  | cons y l ih =>
    intro a h
    obtain⟨y1,y2⟩:=h y (by simp)
    obtain⟨i1,i2⟩:=ih (a+y) (fun x hx=>h x (by simp [hx]))
    simp only [List.foldl_cons,List.length_cons]
    omega
 have:=key l 0 h
 unfold sumL
 omega
theorem meanZ_sum (l:List Int):meanZ l=IntKind.i8.wrap (nearZ (sumL l) l.length):=by
 unfold meanZ
 have h:=sumL_psum l l.length (Nat.le_refl _)
 rw [List.take_length] at h
 rw [h]
set_option maxRecDepth 100000 in
set_option maxHeartbeats 4000000 in
theorem meanC_to (g b off:Nat) (H W C:Int) (N c kk o d:Nat) (top left:Int) (G:Nat→Int) (hbz:∀ k, -128≤G k∧G k≤127) (ht:tensB H W C N=true) (hd:C=(d:Int)) (ho:o < d) (hk7:kk≤7)
  (t1 : -1000≤top) (t2:top≤1000) (l1 : -1000≤left) (l2:left≤1000) (R:Int) (hR:meanZ ((rowsI H W C top left kk o kk).map G)=R)
  (w:World) (hg:g+4 < w.heap.size) (hb:b < w.heap.size) (hcap:CapAt g H W C (some ⟨b,off,none⟩) N c (kk:Int) top left (o:Int) w) (hc:∀ j,j < N→w.cell? ⟨b,off+j,none⟩=some (.int .i8 (G j))) :
  Calls Tryz.prog 55 #[.func (.func 138) #[] #[.pointer (some ⟨g+1,0,none⟩),.pointer (some ⟨g,0,none⟩),.pointer (some ⟨g+2,0,none⟩),.pointer (some ⟨g+3,0,none⟩),.pointer (some ⟨g+4,0,none⟩)]] w fun e w'=>e=.returned (.int .i8 R)∧Below w.heap.size w w':=by
 have hR2:IntKind.i8.wrap (nearZ (sumL ((rowsI H W C top left kk o kk).map G)) ((rowsI H W C top left kk o kk).length:Int))=R:=by
  rw [← hR,meanZ_sum,List.length_map]
 have HR:=Lib.hid hR2
 have HBZ:=Lib.hid hbz
 have hlw:=rowsI_len H W C top left kk o kk
 have hkk:kk * kk≤49:=Nat.le_trans (Nat.mul_le_mul hk7 hk7) (by omega)
 have hll:(rowsI H W C top left kk o kk).length≤49:=Nat.le_trans hlw hkk
 have hall:∀ pre:List Nat,∀ x∈pre.map G, -128≤x∧x≤127:=by
  intro pre x hx
  obtain⟨k, -,rfl⟩:=List.mem_map.1 hx
  exact hbz k
 have HALL:=Lib.hid hall
 clear hR hR2 hlw hkk hall
 refine (callsIn_wide (n:=5)).1 ?_
 refine callsIn_of_wp_marks Tryz.func55 rfl trivial ?_ rfl
 simp only [Tryz.ntmps55,List.size_toArray,List.length_cons,List.length_nil,Nat.reduceAdd,Nat.reduceSub,Array.replicate_succ,Array.replicate_zero,List.push_toArray,List.append_toArray,List.nil_append,List.cons_append]
 refine wpIn_wide.2 ?_
 go_wp2_with fail
 have bX:=(Boxed.new w 3 (.int .i64 0)).alloc (.cells #[.int .i64 0] 3)
 have bM:=Boxed.new (w.alloc (.cells #[.int .i64 0] 3)) 3 (.int .i64 0)
 rw [World.size_alloc] at bM
 have hbW:Below w.heap.size w ((w.alloc (.cells #[.int .i64 0] 3)).alloc (.cells #[.int .i64 0] 3)):=((Below.refl _ _).alloc (Nat.le_refl _) _).alloc (by simp) _
 have hsW:((w.alloc (.cells #[.int .i64 0] 3)).alloc (.cells #[.int .i64 0] 3)).heap.size=w.heap.size+2:=by simp
 generalize (w.alloc (.cells #[.int .i64 0] 3)).alloc (.cells #[.int .i64 0] 3)=W1 at bX bM hbW hsW ⊢
 refine (wpIn_wide (n:=5)).1 ?_
 refine wpIn_rangeFunc_ownG (F:=Fence.wide) (n:=5) rfl (by omega) (gf:=138) (lb:=#[.pointer (some ⟨g+1,0,none⟩),.pointer (some ⟨g,0,none⟩),.pointer (some ⟨g+2,0,none⟩),.pointer (some ⟨g+3,0,none⟩),.pointer (some ⟨g+4,0,none⟩)]) rfl trivial (enters_of Tryz.func138 (by kernel_rfl) rfl)
  (seq_window (5 - 1) (by omega) g w.heap.size b off H W C N c kk o d top left G ht hd ho hk7 t1 t2 l1 l2 hg hb W1 (by omega) (hcap.below hg hbW) (fun j hj=>(hbW.cell (p:=⟨b,off+j,none⟩) hb).trans (hc j hj))) belowK_t (belowK_b (by omega)) (Below.refl _ _) (fun _=>rfl)
  (fun pre W=>(Boxed W w.heap.size 3 (.int .i64 (sumL (pre.map G)))∧Boxed W (w.heap.size+1) 3 (.int .i64 (pre.length:Int)))∧Below w.heap.size w W)
  (fun _ _ _=>False)
  (OwnFrom.and (OwnFrom.and (Own.from (boxed_own w.heap.size 3 (fun pre:List Nat=>(.int .i64 (sumL (pre.map G))))) _) (Own.from (boxed_own (w.heap.size+1) 3 (fun pre:List Nat=>.int .i64 (pre.length:Int))) _)) (ownFrom_below (by omega) (by omega)))
  (fun _ _ _ _ _ hs _ _=>hs)
  ⟨⟨bX,bM⟩,hbW⟩
  ?a1 ?assign ?body ?done ?stop
 case assign =>
  intro l x W K hK
  gi_wp2
  exact hK
 case body =>
  rintro l pre x W ⟨⟨hX,hM⟩,hB⟩ hlt
  have hs:=sumL_snoc (pre.map G) (G x)
  have hm:(pre ++ [x]).map G=pre.map G ++ [G x]:=by simp
  have hbd:=sumL_bd _ (HALL.out pre)
  rw [List.length_map] at hbd
  rw [← hm] at hs
  obtain⟨y1,y2⟩:=HBZ.out x
  clear hm
  obtain⟨m0,hm0⟩:∃ m0,sumL (pre.map G)=m0:=⟨_,rfl⟩
  rw [hm0] at hs hX hbd
  generalize G x=y at hs y1 y2 ⊢
  have w1:IntKind.i64.wrap y=y:=IntWalk.i64_in _ (by omega)
  have w2:IntKind.i64.wrap (m0+y)=m0+y:=IntWalk.i64_in _ (by omega)
  have w3:IntKind.i64.wrap ((pre.length:Int)+1)=(pre.length:Int)+1:=IntWalk.i64_in _ (by omega)
  have hpl:(((pre ++ [x]).length:Nat):Int)=(pre.length:Int)+1:=by simp
  have HPL:=Lib.hid hpl
  generalize (pre.length:Int)=pl at w3 hM HPL ⊢
  have HS:=Lib.hid hs
  have HX:=Lib.hid hX
  have HM:=Lib.hid hM
  have HB:=Lib.hid hB
  have hcx:=hX.cell
  have hfx:=hX.frozen
  have hcm:=hM.cell
  have hfm:=hM.frozen
  clear hs hX hM hB hm0 hbz bX bM hbW hcap hc ht hpl hbd
  gi_wp2
  exact⟨((KeepsOthers.setCell _ _ _).trans (KeepsOthers.setCell _ _ _)).from _,((Below.refl _ _).setCell (p:=⟨w.heap.size,0,none⟩) (Nat.le_refl _) _).setCell (p:=⟨w.heap.size+1,0,none⟩) (show w.heap.size≤w.heap.size+1 by omega) _,
   ⟨by rw [HS.out];exact (HX.out.set _).other (by omega) _,by rw [HPL.out];exact (HM.out.other (by omega) _).set _⟩,(HB.out.setCell (p:=⟨w.heap.size,0,none⟩) (Nat.le_refl _) _).setCell (p:=⟨w.heap.size+1,0,none⟩) (show w.heap.size≤w.heap.size+1 by omega) _⟩
 case done =>
  rintro D ls Wd hD rfl ⟨⟨hX,hM⟩,hB⟩ hK
  have hbd:=sumL_bd _ (HALL.out (rowsI H W C top left kk o kk))
  rw [List.length_map] at hbd
  obtain⟨R0,hR0⟩:∃ R0,nearZ (sumL ((rowsI H W C top left kk o kk).map G)) ((rowsI H W C top left kk o kk).length:Int)=R0:=⟨_,rfl⟩
  have hwr:=HR.out
  rw [hR0] at hwr
  generalize sumL ((rowsI H W C top left kk o kk).map G)=s0 at hX hbd hR0
  generalize hml:((rowsI H W C top left kk o kk).length:Int)=m0 at hM hbd hR0
  have hm9:0≤m0∧m0≤49:=by omega
  obtain⟨hm1,hm2⟩:=hm9
  have hcx:=hX.cell
  have hcm:=hM.cell
  have HB:=Lib.hid hB
  have HK:=Lib.hid hK
  have HD:=Lib.hid hD
  have HR0:=Lib.hid hR0
  have hs1 : -4611686018427387904≤s0:=by omega
  have hs2:s0≤4611686018427387904:=by omega
  have hm3:m0≤9223372036854775807:=by omega
  clear hX hM hB hK hD hbz bX bM hbW hcap hc ht hml hbd hR0 hm1 hm2
  go_wp2_with (go_at_call 56;(refine (near_to s0 m0 hs1 hs2 hm3 R0 HR0.out _).mono ?_);rintro e w1 ⟨rfl,q1,rfl⟩)
  have HK2:(Wd.drewN q1).heap[D]?=some (.deferred (some [])):=HK.out
  refine⟨by simp,.inl ⟨_,_,rfl,run_takeDeferred HK2,?_⟩⟩
  refine⟨.int .i8 R,?_,rfl,(Kit.below_drewN HB.out _).trans (belowK_b (w:=w) (Nat.le_refl _) _ D _ _ (by have:=HD.out;omega) HK2 rfl rfl)⟩
  simp [results,Tryz.f55,go_sem]
 case stop =>
  rintro D c pre W _ _ h _
  exact h.elim
end Go.Proofs.YtkpngknbiecdiaaGreatDoor.CPool
end
section
namespace Go.Proofs.YtkpngknbiecdiaaGreatDoor.CAct
open Go Go.ChangeShapes Go.WideShapes Go.ChangeAt Go.RowKit Go.Deep
open Plain CSat CFix CShape CTensor CConv
set_option linter.unusedVariables false
theorem all_of_c (A:Option Addr) (zs:List Int) (n c:Nat) (hn:zs.length=n) (hn6:n≤1000000) (hz:I32s zs) (x0 x1 x2:Value) (K S P O Z Y:Int) (WA BA:Option Addr) (nW cW nB cB:Nat) (m1 s1 z1 m2 s2 z2 lo hi:Int) (hnb:NBd Z Y m1 z1 m2 z2 lo hi) (hq:rightB m1 s1=true) (w:World) (hr:Kit.Rd w w.heap.size A (I32v zs)) :
  Calls Tryz.prog 113 #[.slice A n c,.agg #[.int .i32 m1,.int .i64 s1,.int .i8 z1],.int .i8 lo,.int .i8 hi] w (fun e w'=>∃ v,e=.returned v∧w'.ownsRow w.heap.size 22 1 v n (I8s (zs.map fun a=>heldZ a m1 s1 z1 lo hi))∧Below w.heap.size w w'):=by
 obtain⟨-, -,⟨hm3,hm1⟩,⟨hz1,hz2⟩, -, -,⟨hl1,hl2⟩,⟨hh1,hh2⟩⟩:=hnb
 subst hn
 exact all_yes A zs c m1 s1 z1 lo hi hq hn6 hz hm3 hm1 hz1 hz2 hl1 hl2 hh1 hh2 _ rfl w hr
set_option maxRecDepth 100000 in
set_option maxHeartbeats 8000000 in
theorem aput_yes (H W C:Int) (A:Option Addr) (zs:List Int) (n c:Nat) (hn:zs.length=n) (hn6:n≤1000000) (hz:I32s zs) (x0 x1 x2:Value) (K S P O Z Y:Int) (WA BA:Option Addr) (nW cW nB cB:Nat) (m1 s1 z1 m2 s2 z2 lo hi:Int) (hnb:NBd Z Y m1 z1 m2 z2 lo hi) (h1:tensB H W C n=true) (hq:rightB m1 s1=true) (w:World) (hr:Kit.Rd w w.heap.size A (I32v zs)) :
  Calls Tryz.prog 68 #[.agg #[.int .i64 H,.int .i64 W,.int .i64 C,.slice A n c],.agg #[x0,x1,x2,.int .i64 K,.int .i64 S,.int .i64 P,.int .i64 O,.int .i8 Z,.int .i8 Y,.slice WA nW cW,.slice BA nB cB,.int .i32 m1,.int .i64 s1,.int .i8 z1,.int .i32 m2,.int .i64 s2,.int .i8 z2,.int .i8 lo,.int .i8 hi]] w (MadeT w H W C n (zs.map fun a=>heldZ a m1 s1 z1 lo hi) (.int .i64 0)):=by
 have HT1:=Lib.hid h1
 have HQ:=Lib.hid hq
 have HN:=Lib.hid hn
 have HZ:=Lib.hid hz
 have HNB:=Lib.hid hnb
 have HRA:=Lib.hid hr
 clear h1 hq hn hz hnb hr
 go_enter Tryz.func68,Tryz.ntmps68
 go_wp2_with (first
 | (go_at_call 112
    have hal:Below w.heap.size w (((w.alloc (.cells #[.int .i64 H,.int .i64 W,.int .i64 C,.slice A n c] 41)).alloc (.cells #[x0,x1,x2,.int .i64 K,.int .i64 S,.int .i64 P,.int .i64 O,.int .i8 Z,.int .i8 Y,.slice WA nW cW,.slice BA nB cB,.int .i32 m1,.int .i64 s1,.int .i8 z1,.int .i32 m2,.int .i64 s2,.int .i8 z2,.int .i8 lo,.int .i8 hi] 28)).alloc (.cells #[.int .i64 0,.int .i64 0,.int .i64 0,.slice none 0 0] 32)):=(((Below.refl _ _).alloc (by first | exact Nat.le_refl _ | (simp;done) | (simp;omega)) _).alloc (by first | exact Nat.le_refl _ | (simp;done) | (simp;omega)) _).alloc (by first | exact Nat.le_refl _ | (simp;done) | (simp;omega)) _
    refine (rsums_to H W C A n c true HT1.out _).mono ?_
    rintro e w1 ⟨rfl,hb⟩
    have hh:Below w.heap.size w w1:=hal.trans (hb.mono hal.size)
    have qTA:=(boxNew H W C A n c 41) w
    try simp only [World.size_alloc] at qTA
    have TA:=Lib.hid ((qTA.below (B':=w.heap.size+1) (by omega) ((((Below.refl _ _).alloc (by first | exact Nat.le_refl _ | (simp;done) | (simp;omega)) _).alloc (by first | exact Nat.le_refl _ | (simp;done) | (simp;omega)) _).mono (by simp))).below (by first | (simp;done) | (simp;omega)) hb)
    have yTA:w.heap.size < w1.heap.size:=by have:=hb.size;simp at this;omega
    clear qTA
    have qTN:=(NodeAt.new x0 x1 x2 (.int .i8 Y) (.int .i32 m1) (.int .i64 s1) (.int .i8 z1) (.int .i32 m2) (.int .i64 s2) (.int .i8 z2) (.int .i8 lo) (.int .i8 hi) K S P O Z WA BA nW cW nB cB 28) (w.alloc (.cells #[.int .i64 H,.int .i64 W,.int .i64 C,.slice A n c] 41))
    try simp only [World.size_alloc] at qTN
    have TN:=Lib.hid ((qTN.below (B':=w.heap.size+2) (by omega) (((Below.refl _ _).alloc (by first | exact Nat.le_refl _ | (simp;done) | (simp;omega)) _).mono (by simp))).below (by first | (simp;done) | (simp;omega)) hb)
    have yTN:w.heap.size+1 < w1.heap.size:=by have:=hb.size;simp at this;omega
    clear qTN
    have qFR:=(freshNew 32) ((w.alloc (.cells #[.int .i64 H,.int .i64 W,.int .i64 C,.slice A n c] 41)).alloc (.cells #[x0,x1,x2,.int .i64 K,.int .i64 S,.int .i64 P,.int .i64 O,.int .i8 Z,.int .i8 Y,.slice WA nW cW,.slice BA nB cB,.int .i32 m1,.int .i64 s1,.int .i8 z1,.int .i32 m2,.int .i64 s2,.int .i8 z2,.int .i8 lo,.int .i8 hi] 28))
    try simp only [World.size_alloc] at qFR
    have FR:=Lib.hid (qFR.below (by first | (simp;done) | (simp;omega)) hb)
    have yFR:w.heap.size+2 < w1.heap.size:=by have:=hb.size;simp at this;omega
    clear qFR
    replace HRA:=Lib.hid ((HRA.out.below hh).more hh.size)
    have HBW:Hid (Below w.heap.size w w1):=Lib.hid hh
    obtain⟨tap0,tap1,tap2,tap3⟩:=TA.out
    have n11:=TN.out.at 11 _ rfl
    have n12:=TN.out.at 12 _ rfl
    have n13:=TN.out.at 13 _ rfl
    clear hb hh hal)
 | (go_at_call 50
    have hal:Below w1.heap.size w1 w1:=Below.refl _ _
    refine (isRight_to _ _ _ _).mono ?_
    rintro e w2 ⟨rfl,hb⟩
    have hh:Below w1.heap.size w1 w2:=hal.trans (hb.mono hal.size)
    replace TA:=Lib.hid (TA.out.below yTA hh)
    replace yTA:=Nat.lt_of_lt_of_le yTA hh.size
    replace TN:=Lib.hid (TN.out.below yTN hh)
    replace yTN:=Nat.lt_of_lt_of_le yTN hh.size
    replace FR:=Lib.hid (FR.out.below yFR hh)
    replace yFR:=Nat.lt_of_lt_of_le yFR hh.size
    replace HRA:=Lib.hid ((HRA.out.below hh).more hh.size)
    replace HBW:=Lib.hid (HBW.out.trans (hh.mono HBW.out.size))
    clear tap0 tap1 tap2 tap3 n11 n12 n13
    rw [HQ.out]
    obtain⟨tap0,tap1,tap2,tap3⟩:=TA.out
    have n11:=TN.out.at 11 _ rfl
    have n12:=TN.out.at 12 _ rfl
    have n13:=TN.out.at 13 _ rfl
    clear hb hh hal))
 clear tap0 tap1 tap2 tap3 n11 n12 n13
 refine wp_region_held_drew (S:=fun w'=>BoxAt w.heap.size H W C A n c w'∧NodeAt (w.heap.size+1) x0 x1 x2 (.int .i8 Y) (.int .i32 m1) (.int .i64 s1) (.int .i8 z1) (.int .i32 m2) (.int .i64 s2) (.int .i8 z2) (.int .i8 lo) (.int .i8 hi) K S P O Z WA BA nW cW nB cB w') (by kernel_rfl) ⟨TA.out,TN.out⟩ (fun hHeld=>?_)
 replace HBW:Hid (Below w.heap.size w w2.drew):=Lib.hid HBW.out.drew
 replace HRA:Hid (Kit.Rd w2.drew w2.drew.heap.size A (I32v zs)):=Lib.hid (HRA.out.below ((Below.refl _ _).drew))
 replace FR:Hid (FreshT (w.heap.size+2) w2.drew):=FR
 replace yFR:w.heap.size+2 < w2.drew.heap.size:=yFR
 replace TA:Hid (BoxAt w.heap.size H W C A n c w2.drew):=TA
 replace TN:Hid (NodeAt (w.heap.size+1) x0 x1 x2 (.int .i8 Y) (.int .i32 m1) (.int .i64 s1) (.int .i8 z1) (.int .i32 m2) (.int .i64 s2) (.int .i8 z2) (.int .i8 lo) (.int .i8 hi) K S P O Z WA BA nW cW nB cB w2.drew):=TN
 generalize w2.drew=V1 at HBW HRA FR yFR TA TN hHeld ⊢
 refine Tk.x 0 rfl ?_
 try simp only [Tk.put]
 refine Tk.y 1 (v:=?_) rfl ?_ ?_
 rotate_left
 ·intro wS hSw
  obtain⟨hq1,hq2⟩:=hSw
  obtain⟨s1,s2,s3,s4⟩:=hq1;clear hq2
  first | (go_simp;done) | (go_simp;with_reducible rfl)
 try simp only [Tk.put]
 refine Tk.x 2 rfl ?_
 try simp only [Tk.put]
 refine Tk.y 3 (v:=?_) rfl ?_ ?_
 rotate_left
 ·intro wS hSw
  obtain⟨hq1,hq2⟩:=hSw
  obtain⟨s1,s2,s3,s4⟩:=hq1;clear hq2
  first | (go_simp;done) | (go_simp;with_reducible rfl)
 try simp only [Tk.put]
 refine Tk.x 4 rfl ?_
 try simp only [Tk.put]
 refine Tk.y 5 (v:=?_) rfl ?_ ?_
 rotate_left
 ·intro wS hSw
  obtain⟨hq1,hq2⟩:=hSw
  have q11:=hq2.at 11 _ rfl;have q12:=hq2.at 12 _ rfl;have q13:=hq2.at 13 _ rfl;clear hq1 hq2
  first | (go_simp;done) | (go_simp;with_reducible rfl)
 try simp only [Tk.put]
 refine Tk.x 6 rfl ?_
 try simp only [Tk.put]
 refine Tk.y 7 (v:=?_) rfl ?_ ?_
 rotate_left
 ·intro wS hSw
  obtain⟨hq1,hq2⟩:=hSw
  have q17:=hq2.at 17 _ rfl;clear hq1 hq2
  first | (go_simp;done) | (go_simp;with_reducible rfl)
 try simp only [Tk.put]
 refine Tk.x 8 rfl ?_
 try simp only [Tk.put]
 refine Tk.y 9 (v:=?_) rfl ?_ ?_
 rotate_left
 ·intro wS hSw
  obtain⟨hq1,hq2⟩:=hSw
  have q18:=hq2.at 18 _ rfl;clear hq1 hq2
  first | (go_simp;done) | (go_simp;with_reducible rfl)
 try simp only [Tk.put]
 refine Tk.s 10 rfl (fun Kq hK=>?_)
 go_simp
 go_at_call 113
 refine (all_of_c A zs n c HN.out hn6 HZ.out x0 x1 x2 K S P O Z Y WA BA nW cW nB cB m1 s1 z1 m2 s2 z2 lo hi HNB.out HQ.out V1 HRA.out).mono ?_
 rintro e V2 ⟨v3,rfl,ho3,hb1⟩
 obtain⟨A3,c3,rfl, -, -, -⟩:=Kit.own_rd ho3
 have HO3:=Lib.hid ho3
 have HGE:Hid (w.heap.size≤V1.heap.size):=Lib.hid HBW.out.size
 have HGT:Hid (w.heap.size+2 < V1.heap.size):=Lib.hid yFR
 replace FR:=Lib.hid (FR.out.below yFR hb1)
 replace TA:=Lib.hid (TA.out.below (Nat.lt_of_le_of_lt (Nat.le_add_right _ 2) yFR) hb1)
 replace TN:=Lib.hid (TN.out.below (Nat.lt_of_le_of_lt (Nat.le_succ _) yFR) hb1)
 replace HBW:=Lib.hid (HBW.out.trans (hb1.mono HBW.out.size))
 replace yFR:=Nat.lt_of_lt_of_le yFR hb1.size
 clear hHeld hb1 ho3
 dsimp only
 refine hK.out _ _ ?_ (fun hHeld=>?_)
 ·exact⟨TA.out,TN.out⟩
 clear hK Kq
 try simp only [Tk.put]
 refine Tk.x 11 rfl ?_
 try simp only [Tk.put]
 obtain⟨⟨z0,z1',z2',z3⟩,z4,z5,z6,z7⟩:=FR.out
 have hb9:∀ x y z u:Value,Below (w.heap.size+2) V2 ((((V2.setCell ⟨w.heap.size+2,0,none⟩ x).setCell ⟨w.heap.size+2,1,none⟩ y).setCell ⟨w.heap.size+2,2,none⟩ z).setCell ⟨w.heap.size+2,3,none⟩ u):=fun x y z u=>(((((Below.refl _ _).setCell (p:=⟨w.heap.size+2,0,none⟩) (Nat.le_refl _) _).setCell (p:=⟨w.heap.size+2,1,none⟩) (Nat.le_refl _) _).setCell (p:=⟨w.heap.size+2,2,none⟩) (Nat.le_refl _) _).setCell (p:=⟨w.heap.size+2,3,none⟩) (Nat.le_refl _) _)
 have HB9:=Lib.hid hb9
 clear hb9
 refine Tk.s 12 rfl (fun Kq hK=>?_)
 go_simp
 refine hK.out _ _ ?_ (fun hHeld=>?_)
 ·exact⟨TA.out.below (by omega) (HB9.out _ _ _ _),TN.out.below (by omega) (HB9.out _ _ _ _)⟩
 clear hK Kq
 try simp only [Tk.put]
 refine Tk.x 13 rfl ?_
 try simp only [Tk.put]
 refine wpAnyH_done (by kernel_rfl) ?_ _
 clear hHeld
 go_wp2_with fail
 refine bodyPost_ret (Kit.results_ct rfl _ _ (w.heap.size+2) 0 [.int .i64 H,.int .i64 W,.int .i64 C,.slice A3 n c3] _ rfl (range_4 (by go_cell) (by go_cell) (by go_cell) (by go_cell)) Tryz.underlying32 rfl (by kernel_rfl)) rfl ?_
 refine⟨_,rfl,Kit.own_base (own_set4 HO3.out ?_) ?_,?_⟩
 any_goals (first | exact HGE.out | exact HGT.out | omega | (simp;done) | (simp;omega))
 exact (((HBW.out.setCell (p:=⟨w.heap.size+2,0,none⟩) (by simp) _).setCell (p:=⟨w.heap.size+2,1,none⟩) (by simp) _).setCell (p:=⟨w.heap.size+2,2,none⟩) (by simp) _).setCell (p:=⟨w.heap.size+2,3,none⟩) (by simp) _
end Go.Proofs.YtkpngknbiecdiaaGreatDoor.CAct
end
