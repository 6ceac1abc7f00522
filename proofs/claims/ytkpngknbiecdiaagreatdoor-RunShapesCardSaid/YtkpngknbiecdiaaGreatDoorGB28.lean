/- Texts of this seat, one behind the other: KindOwn, FixKnown, FixAll, LowerBoth, RunSumD, RoundTwo, ActOne, PadCode. -/
import Derived.Deep.CutRange
import Derived.Deep.RegionHeld3
import Derived.RangeFuncCalls
import Derived.OrdersHeld
import Derived.IntWalk
import Derived.Test.YtkpngknbiecdiaaGreatDoorGB1
import Derived.Test.YtkpngknbiecdiaaGreatDoorGB3
import Derived.Test.YtkpngknbiecdiaaGreatDoorGB5
import Derived.Test.YtkpngknbiecdiaaGreatDoorGB7
import Derived.Test.YtkpngknbiecdiaaGreatDoorGB10
import Derived.Test.YtkpngknbiecdiaaGreatDoorGB11
import Derived.Test.YtkpngknbiecdiaaGreatDoorGB13
import Derived.Test.YtkpngknbiecdiaaGreatDoorGB14
import Derived.Test.YtkpngknbiecdiaaGreatDoorGB17
import Derived.Test.YtkpngknbiecdiaaGreatDoorGB23
import Derived.Test.YtkpngknbiecdiaaGreatDoorGB24
import Derived.Test.YtkpngknbiecdiaaGreatDoorGB25
import Derived.Test.YtkpngknbiecdiaaGreatDoorGB26
import Derived.Test.YtkpngknbiecdiaaGreatDoorGB27
section
namespace Go.Proofs.YtkpngknbiecdiaaGreatDoor.CKind
open Go Go.ChangeShapes Go.WideShapes Go.ChangeAt Go.RowKit Go.Deep
open Plain CSat CShape CTensor CConv
set_option linter.unusedVariables false
set_option linter.unusedSimpArgs false
theorem own_to (x:Nd) (h:1≤x.kd∧x.kd≤9) (w:World) :
  Calls Tryz.prog 48 #[.agg x.val] w fun e w'=>e=.returned (.agg (x.ownK x.kd).val)∧Below w.heap.size w w':=by
 have:x.kd=1∨x.kd=2∨x.kd=3∨x.kd=4∨x.kd=5∨x.kd=6∨x.kd=7∨x.kd=8∨x.kd=9:=by omega
 rcases this with h | h | h | h | h | h | h | h | h
 ·rw [h];exact own_1 x h w
 ·rw [h];exact own_2 x h w
 ·rw [h];exact own_3 x h w
 ·rw [h];exact own_4 x h w
 ·rw [h];exact own_5 x h w
 ·rw [h];exact own_6 x h w
 ·rw [h];exact own_7 x h w
 ·rw [h];exact own_8 x h w
 ·rw [h];exact own_9 x h w
end Go.Proofs.YtkpngknbiecdiaaGreatDoor.CKind
end
section
namespace Go.Proofs.YtkpngknbiecdiaaGreatDoor.CFix
open Go Go.ChangeShapes Go.WideShapes Go.ChangeAt Go.RowKit
open Plain CSat
set_option linter.unusedVariables false
theorem scale_int (a m s t:Int) (h1:0≤s) (h2:s≤62) (ha1 : -2147483648≤a) (ha2:a≤2147483647) (hm1 : -2147483648≤m) (hm2:m≤2147483647) (ht:roundZ (a * m) s.toNat=t) (w:World) :
  Calls Tryz.prog 139 #[.int .i32 a,.int .i32 m,.int .i64 s] w fun e w'=>e=.returned (.int .i64 t)∧w=w':=by
 obtain⟨n,rfl⟩:=Int.eq_ofNat_of_zero_le h1
 exact ht ▸ scale_yes a m n (by omega) ha1 ha2 hm1 hm2 w
end Go.Proofs.YtkpngknbiecdiaaGreatDoor.CFix
end
section
namespace Go.Proofs.YtkpngknbiecdiaaGreatDoor.CFix
open Go Go.ChangeShapes Go.WideShapes Go.ChangeAt Go.RowKit
open Plain CSat
set_option linter.unusedVariables false
def Owned (w:World) (T size n:Nat) (xs:List Value) (e:Ending) (w':World):Prop :=
 ∃ v,e=.returned v∧w'.ownsRow w.heap.size T size v n xs∧Below w.heap.size w w'
def I32s (zs:List Int):Prop:=∀ z∈zs, -2147483648≤z∧z≤2147483647
theorem info8:(Tryz.prog.info? 22).map (fun i=>(i.zero,i.size,i.bytes))=some (some (.int .i8 0),1,1):=by kernel_rfl
theorem all_yes (A:Option Addr) (zs:List Int) (c:Nat) (m s z lo hi:Int) (hr:rightB m s=true) (hlen:zs.length≤1000000) (hzs:I32s zs) (hm1 : -2147483648≤m) (hm2:m≤2147483647) (hz1 : -128≤z) (hz2:z≤127)
  (hl1 : -128≤lo) (hl2:lo≤127) (hh1 : -128≤hi) (hh2:hi≤127) (L:List Value) (hL:L=(zs.map fun a=>heldZ a m s z lo hi).map (Value.int .i8)) (w:World) (hrd:Kit.Rd w w.heap.size A (zs.map (.int .i32))) :
  Calls Tryz.prog 113 #[.slice A zs.length c,.agg #[.int .i32 m,.int .i64 s,.int .i8 z],.int .i8 lo,.int .i8 hi] w
   (Owned w 22 1 zs.length L):=by
 have hLl:L.length=zs.length:=by rw [hL];simp
 have HL:=Lib.hid hL
 have HLL:=Lib.hid hLl
 have HR:=Lib.hid hr
 clear hr hL hLl
 go_enter Tryz.func113,Tryz.ntmps113
 obtain⟨i0,hi0,hi1,hi2,hi3⟩:=info_parts info8
 go_wp2_with (first
  | (go_at_call 50;refine (isRight_yes _ _ _ HR.out _).mono ?_;rintro e w1 ⟨rfl,hb⟩)
  | (at_make;refine wpList_make_full _ rfl (.tmp 15) (.tmp 15) _ rfl (w.heap.size+1) 22 i0 (.int .i8 0) 1 Tryz.underlying23 hi0 hi1 hi2 .i64 .i64 _ _ zs.length rfl rfl rfl rfl (by rw [hi3];omega) (by unfold maxLen;omega) (by have:=hb.size;simpa using this) ?_;intro w2 hown hg2))
 have hB2:Below (w.heap.size+1) (w.alloc (.cells #[.int .i32 m,.int .i64 s,.int .i8 z] 26)) w2 :=
  (by simpa using hb:Below (w.heap.size+1) _ w1).grown hg2 (by simpa using hb.size) (fun q hq=>by cases hq)
 have hgs:w.heap.size < w1.heap.size:=by have:=hb.size;simp at this;omega
 rw [show (madeCells (Value.int IntKind.i8 0).cells (zs.length * 1)).toList=List.replicate zs.length (.int .i8 0) by rw [Nat.mul_one];exact toList_madeCells_one _ _] at hown
 generalize w1.heap.size=g at *
 have hown0:w2.ownsRow (w.heap.size+1) 22 1 (.slice (some ⟨g,0,none⟩) zs.length zs.length) zs.length (Kit.filled L (.int .i8 0) 0):=by rw [Kit.filled_zero,HLL.out];exact hown
 have HOWN:=Lib.hid hown0
 have HB2:=Lib.hid hB2
 have HRD:=Lib.hid hrd
 clear hb hg2 hB2 hrd hown hown0
 go_loopw [19] (fun i wr=>∃ k:Nat,k≤zs.length∧i=.int .i64 k∧Hid (wr.ownsRow (w.heap.size+1) 22 1 (.slice (some ⟨g,0,none⟩) zs.length zs.length) zs.length (Kit.filled L (.int .i8 0) k))∧Hid (Below (w.heap.size+1) w2 wr)) (fun i _=>zs.length - (intOf i).toNat)
 case atStart=>exact⟨0,Nat.zero_le _,rfl,HOWN,Lib.hid (Below.refl _ _)⟩
 case round =>
  obtain⟨k,hk,rfl,hown1,hb1⟩:=hrel
  by_cases hlt:k < zs.length
  ·obtain⟨b,off,rfl,hbw,hx⟩:=HRD.out.ints hlt
   obtain⟨hx1,hx2⟩:=hzs zs[k] (List.getElem_mem hlt)
   have hbt:=HB2.out.trans hb1.out
   have hszt:w.heap.size+1≤wr.heap.size:=by have:=hbt.size;simpa using this
   have hga:g < wr.heap.size:=Kit.block_lt_of_own hown1.out
   have cx:wr.cell? ⟨b,off+k,none⟩=some (.int .i32 zs[k]):=by rw [hbt.cell (p:=⟨b,off+k,none⟩) (by simp;omega),World.cell?_alloc_lt _ _ _ hbw];exact hx
   have c0:wr.cell? ⟨w.heap.size,0,none⟩=some (.int .i32 m):=(hbt.cell (p:=⟨w.heap.size,0,none⟩) (by simp)).trans (Kit.new_cell _ _ _ _)
   have c1:wr.cell? ⟨w.heap.size,1,none⟩=some (.int .i64 s):=(hbt.cell (p:=⟨w.heap.size,1,none⟩) (by simp)).trans (Kit.new_cell _ _ _ _)
   have c2:wr.cell? ⟨w.heap.size,2,none⟩=some (.int .i8 z):=(hbt.cell (p:=⟨w.heap.size,2,none⟩) (by simp)).trans (Kit.new_cell _ _ _ _)
   have cd:wr.cell? ⟨g,k,none⟩=some (.int .i8 0):=by
    rw [hown1.out.cellAt k (by omega)]
    exact Kit.filled_at L _ (by rw [HLL.out];exact hlt)
   have fd:wr.frozen? ⟨g,k,none⟩=false:=hown1.out.frozenAt k
   have lw:w.heap.size < wr.heap.size:=by omega
   have lb:b < wr.heap.size:=by omega
   have nb:g≠b:=by omega
   have nw:g≠w.heap.size:=by omega
   generalize hxe:zs[k]=x at *
   have HX:=Lib.hid hxe
   have HBT:=Lib.hid hbt
   clear hxe hbt hx
   go_wp2_with fail
   go_region_held3 (fun w'=>w'.cell? ⟨b,off+k,none⟩=some (.int .i32 x)∧w'.cell? ⟨w.heap.size,0,none⟩=some (.int .i32 m)∧w'.cell? ⟨w.heap.size,1,none⟩=some (.int .i64 s)∧w'.cell? ⟨w.heap.size,2,none⟩=some (.int .i8 z)) (first | go_keep | exact⟨(World.cell?_setCell_far _ _ _ _ nb).trans e0,(World.cell?_setCell_far _ _ _ _ nw).trans e1,(World.cell?_setCell_far _ _ _ _ nw).trans e2,(World.cell?_setCell_far _ _ _ _ nw).trans e3⟩) ((first
    | (go_at_call 107;refine (held _ _ _ _ _ _ hx1 hx2 hm1 hm2 hz1 hz2 hl1 hl2 hh1 hh2 _).mono ?_;rintro e w3 ⟨rfl,hb3⟩;obtain⟨hc3,hf3⟩:=Kit.bcell hb3;have e0:=(hc3 _ _ lb).trans cx;have e1:=(hc3 _ _ lw).trans c0;have e2:=(hc3 _ _ lw).trans c1;have e3:=(hc3 _ _ lw).trans c2;have ed:=(hc3 _ _ hga).trans cd;have ef:=(hf3 _ _ hga).trans fd;clear hc3 hf3)))
   have hn3:=((Kit.own_below hown1.out ((Below.refl _ _).drew.trans hb3)).stored k (.int .i8 (heldZ x m s z lo hi))).1
   have hval:Value.int .i8 (heldZ x m s z lo hi)=L[k]'(by rw [HLL.out];exact hlt):=by
    have hLo:=HL.out
    subst hLo
    simp [HX.out]
   have hn4:(w3.setCell ⟨g,k,none⟩ (.int .i8 (heldZ x m s z lo hi))).ownsRow (w.heap.size+1) 22 1 (.slice (some ⟨g,0,none⟩) zs.length zs.length) zs.length (Kit.filled L (.int .i8 0) (k+1)):=by
    rw [← Kit.filled_set L _ (by rw [HLL.out];exact hlt), ← hval];exact hn3
   have hbn:Below (w.heap.size+1) w2 (w3.setCell ⟨g,k,none⟩ (.int .i8 (heldZ x m s z lo hi))) :=
    (hb1.out.trans (((Below.refl _ _).drew.trans hb3).mono hszt)).setCell (by simp;omega) _
   have HN4:=Lib.hid hn4
   have HBN:=Lib.hid hbn
   clear hn3 hval hn4 hbn hb3 e0 e1 e2 e3 ed ef cx c0 c1 c2 cd fd
   go_wp2
   go_roundw
   case rel=>exact⟨k+1,by omega,by go_num,HN4,HBN⟩
   case measure=>simp [intOf];omega
  ·have hke:k=zs.length:=by omega
   have hfin:wr.ownsRow (w.heap.size+1) 22 1 (.slice (some ⟨g,0,none⟩) zs.length zs.length) zs.length L:=by
    have:=hown1.out
    rwa [Kit.filled_all L _ (by rw [HLL.out];omega)] at this
   have HF:=Lib.hid hfin
   clear hke hfin
   go_wp2_with fail
   go_ret
   exact⟨_,rfl,Kit.own_base HF.out (by omega),((Below.refl w.heap.size w).alloc (Nat.le_refl _) _).trans ((HB2.out.trans hb1.out).mono (by omega))⟩
end Go.Proofs.YtkpngknbiecdiaaGreatDoor.CFix
end
section
namespace Go.Proofs.YtkpngknbiecdiaaGreatDoor.CLower
open Go Go.ChangeShapes Go.WideShapes Go.ChangeAt Go.RowKit Go.Shelf Round
open Plain CSat CShape CTensor CConv
set_option linter.unusedVariables false
theorem lOf_good (H W C:Int) (A:Option Addr) (zs:List Int) (n c:Nat) (hn:zs.length=n) (ht:tensB H W C n=true) (hz:I8b zs) (x0 x1 x2 x8 x11 x12 x13 x14 x15 x16 x17 x18:Value) (K S P O Z:Int) (WA BA:Option Addr) (nW cW nB cB:Nat) (ws:List Int) (hws:ws.length=nW) (hwc:nW≤cW) (hwm:cW≤maxLen) (hwb:I8b ws) (bs:List Int) (hbs:bs.length=nB)
  (he:convE H W C K S P O nW nB=0) (a b oo d kk:Nat) (ha:stepsM H K S P=(a:Int)) (hb:stepsM W K S P=(b:Int)) (hO:O=(oo:Int)) (hd:C=(d:Int)) (hk:K=(kk:Int)) (N:Nat) (hN:a * b * oo=N) (z1 : -128≤Z) (z2:Z≤127)
  (w:World) (hr:Kit.Rd w w.heap.size A (I8s zs)) (hrw:Kit.Rd w w.heap.size WA (I8s ws)) (hrb:Kit.Rd w w.heap.size BA (I32v bs)) :
  Calls Tryz.prog 34 #[.agg #[.int .i64 H,.int .i64 W,.int .i64 C,.slice A n c],.agg #[x0,x1,x2,.int .i64 K,.int .i64 S,.int .i64 P,.int .i64 O,.int .i8 Z,x8,.slice WA nW cW,.slice BA nB cB,x11,x12,x13,x14,x15,x16,x17,x18]] w (MadeA w (a:Int) (b:Int) O N (rowL (gridF b oo (sumF zs ws bs H W C S P d kk Z)) N) (.int .i64 0)):=by
 subst hO
 exact lOf_yes H W C A zs n c hn ht hz x0 x1 x2 x8 x11 x12 x13 x14 x15 x16 x17 x18 K S P Z WA BA nW cW nB cB ws hws hwc hwm hwb bs hbs oo he a b d kk ha hb hd hk N hN z1 z2 w hr hrw hrb
end Go.Proofs.YtkpngknbiecdiaaGreatDoor.CLower
end
section
namespace Go.Proofs.YtkpngknbiecdiaaGreatDoor.CRun
set_option maxRecDepth 100000
open Go Go.ChangeShapes Go.WideShapes Go.ChangeAt Go.RowKit Go.Deep
open Plain CSat CShape CTensor CConv CKind
set_option linter.unusedVariables false
set_option linter.unusedSimpArgs false
set_option maxRecDepth 100000 in
set_option maxHeartbeats 4000000 in
theorem csummed_ok (x:Nd) (H W C:Int) (A:Option Addr) (n c:Nat) (r q:Res) (h0:r.er=0) (w:World) (hS:∀ w1:World,Below w.heap.size w w1→Calls Tryz.prog 10 #[.agg x.val,.agg #[.int .i64 H,.int .i64 W,.int .i64 C,.slice A n c]] w1 (MAcc w1 r)) (hP:∀ (w1:World) (A2:Option Addr) (c2:Nat),Below w.heap.size w w1→Kit.Rd w1 w1.heap.size A2 (I32v r.xs)→Calls Tryz.prog 68 #[.agg #[.int .i64 r.X,.int .i64 r.Y,.int .i64 r.U,.slice A2 r.m c2],.agg x.val] w1 (MTen w1 q)):Calls Tryz.prog 24 #[.agg x.val,.agg #[.int .i64 H,.int .i64 W,.int .i64 C,.slice A n c]] w (MTen w q):=by
 have HC:=Lib.hid hS
 have HP:=Lib.hid hP
 clear hS hP
 have HE:=Lib.hid (ent1 x H W C A n c 32 w)
 go_enter Tryz.func24,Tryz.ntmps24
 go_upto_region 1 with fail
 obtain⟨W0,hW0,TN,HB,hz,TA,FR⟩:=HE.out
 rw [← hW0]
 clear hW0 HE
 obtain⟨k00,k01,k02,k03⟩:=TA.out
 obtain⟨⟨z0,z1,z2,z3⟩,f0,f1,f2,f3⟩:=FR.out
 have d1:(r.er != 0)=false:=by simpa using h0
 have d2:(r.er == 0)=true:=by simpa using h0
 go_wp2_with (first
  | (refine nd_load rfl _ rfl w.heap.size x rfl TN.out ?_)
  | (go_at_call 10;(with_reducible refine (HC.out _ HB.out).mono ?_);rintro e1 w1 ⟨v,rfl,ho,hb⟩;(replace TN:=Lib.hid (TN.out.below (by omega) hb));(replace TA:=Lib.hid (TA.out.below (by omega) hb));(replace FR:=Lib.hid (FR.out.below hz hb));clear k00 k01 k02 k03 z0 z1 z2 z3 f0 f1 f2 f3;obtain⟨k00,k01,k02,k03⟩:=TA.out;obtain⟨⟨z0,z1,z2,z3⟩,f0,f1,f2,f3⟩:=FR.out;have hzo:=hz;(replace hz:w.heap.size+2 < w1.heap.size:=Nat.lt_of_lt_of_le hz hb.size);have HO1:=Lib.hid ho;obtain⟨A2,c2,rfl, -, -,hr2⟩:=Kit.own_rd ho;have HR2:=Lib.hid hr2;(replace HB:=Lib.hid (HB.out.trans (hb.mono HB.out.size)));clear ho hb hzo hr2)
  | (refine nd_load rfl _ rfl w.heap.size x rfl (TN.out.below (show w.heap.size < w1.heap.size by omega) ((Below.refl w1.heap.size w1).alloc (Nat.le_refl _) _)) ?_)
  | (go_at_call 68;(with_reducible refine (HP.out _ A2 c2 (HB.out.alloc HB.out.size _) ((HR2.out.alloc (Nat.le_refl _) _).more (by simp))).mono ?_);rintro e1 w2 ⟨v,rfl,ho,hb2⟩;have hb:Below w1.heap.size w1 w2:=((Below.refl _ _).alloc (Nat.le_refl _) _).trans (hb2.mono (by simp));have hzl:w.heap.size+2+1≤w1.heap.size:=hz;(replace TN:=Lib.hid (TN.out.below (by omega) hb));(replace TA:=Lib.hid (TA.out.below (by omega) hb));(replace FR:=Lib.hid (FR.out.below hz hb));clear k00 k01 k02 k03 z0 z1 z2 z3 f0 f1 f2 f3;obtain⟨k00,k01,k02,k03⟩:=TA.out;obtain⟨⟨z0,z1,z2,z3⟩,f0,f1,f2,f3⟩:=FR.out;have hzo:=hz;(replace hz:w.heap.size+2 < w2.heap.size:=Nat.lt_of_lt_of_le hz hb.size);have HO:=Lib.hid (Kit.own_base ho (show w.heap.size+2+1≤_ from by simp;omega));have HZO:=Lib.hid (Nat.lt_succ_self (w.heap.size+2));obtain⟨A3,c3,rfl, -, -, -⟩:=Kit.own_rd ho;(replace HB:=Lib.hid (HB.out.trans (hb.mono HB.out.size)));clear ho hb hb2 hzo))
 refine bodyPost_ret (Kit.results_ct rfl _ _ (w.heap.size+2) 0 [.int .i64 q.X,.int .i64 q.Y,.int .i64 q.U,.slice A3 q.m c3] _ rfl (range_4r (by go_cell) (by go_cell) (by go_cell) (by go_cell)) Tryz.underlying32 rfl (by kernel_rfl)) rfl ?_
 refine⟨_,rfl,Kit.own_base (own_set4 HO.out HZO.out) (by omega),?_⟩
 exact (((HB.out.setCell (p:=⟨w.heap.size+2,0,none⟩) (Nat.le_add_right _ _) _).setCell (p:=⟨w.heap.size+2,1,none⟩) (Nat.le_add_right _ _) _).setCell (p:=⟨w.heap.size+2,2,none⟩) (Nat.le_add_right _ _) _).setCell (p:=⟨w.heap.size+2,3,none⟩) (Nat.le_add_right _ _) _
end Go.Proofs.YtkpngknbiecdiaaGreatDoor.CRun
end
section
namespace Go.Proofs.YtkpngknbiecdiaaGreatDoor.Round
open Go
set_option linter.unusedVariables false
section
variable {l n:Nat} {P:Program} {ops:Array Oper} {Q:Exit→Act→World→Prop} {md:Region.Mode}
theorem rows_wide {row:String} {args:Array Value} {w:World} {R:Value→World→Prop} (h:Rows P row args w R):RowsIn (Fence.wide.inRound l) n P row args w R:=fun c cs _=>by
 obtain⟨v,w',r,s⟩:=h c cs
 exact⟨v,w',r,stepsIn_wide.2 s⟩
theorem oper_wide {o:Oper} {a:Act} {w:World} {K K':Act→World→Prop} (hd:∀ c,o.op≠.defer c) (hK:∀ a w,K a w→K' a w) (h:o.wp P a w K (Norm Q)):o.wpIn (Fence.wide.inRound l) n P a w K' Q:=by
 refine⟨fun f _=>trivial,?_⟩
 rw [Oper.semAt_eq _ _ _ hd]
 unfold Oper.wp at h
 generalize (execOp a.eval o).run P w=r at h
 cases r with
 | ok x w' =>
   cases x with
   | value v=>exact hK _ _ h
   | skip=>exact hK _ _ h
   | defer d=>exact hK _ _ h
   | enter f args =>
     refine⟨fun h=>by simp [Fence.wide] at h,?_⟩
     refine (CallsIn.inRound l (callsIn_wide.2 h)).mono ?_
     intro e w'' he
     cases e with
     | returned v=>exact hK _ _ he
     | panicked c=>exact he.elim
     | outgrown=>obtain⟨a,w,h⟩:=he;exact h.elim
   | row row args =>
     refine⟨fun h=>by simp [Fence.wide] at h,?_⟩
     refine RowsIn.mono (rows_wide h) ?_
     intro v w'' he
     exact hK _ _ he
   | _=>exact (h:False).elim
 | halt x w' =>
   cases x <;> first | exact h.elim | exact (h:False).elim
theorem wpAnyIn_of_wide (hst:∀ (i:Nat) (o:Oper),ops[i]?=some o→∀ c,o.op≠.defer c):∀ (fuel:Nat) (listed:Array Bool) (a:Act) (w:World),
  wpAny P md ops (Norm Q) fuel listed a w→wpAnyIn (Fence.wide.inRound l) n P md ops Q fuel listed a w
 | 0,_,_,_,h=>h
 | fuel+1,listed,a,w,h=>by
   refine⟨h.1,fun i hi=>?_⟩
   have hop:=h.2 i hi
   unfold wpOp at hop
   unfold wpOpIn
   cases ho:ops[i]? with
   | none =>
     simp only [ho] at hop
     exact wpAnyIn_of_wide hst fuel _ _ _ hop
   | some o =>
     simp only [ho] at hop
     have h1:=hst i o ho
     by_cases hw:Region.wanted o (yielded ops a.tmps)=true
     ·simp only [hw,if_true] at hop ⊢
      rcases hop with hop | ⟨_,_,_,hF⟩
      ·exact oper_wide h1 (fun a' w' h'=>wpAnyIn_of_wide hst fuel _ _ _ h') hop
      ·exact hF.elim
     ·simp only [hw,if_false,Bool.false_eq_true] at hop ⊢
      exact⟨fun f _=>trivial,wpAnyIn_of_wide hst fuel _ _ _ hop⟩
theorem no_defer {lo:List Oper} (h:lo.all (fun o=>match o.op with | .defer _=>false | _=>true)=true):∀ (i:Nat) (o:Oper),lo.toArray[i]?=some o→∀ c,o.op≠.defer c:=fun i o ho c e=>by
 have:=List.all_eq_true.1 h o (List.mem_of_getElem? (by simpa using ho))
 rw [e] at this
 cases this
theorem region_held {S:World→Prop} {id:Nat} {lo:List Oper} {a:Act} {w:World} (hm:P.follows .mixedOrders=true) (hst:lo.all (fun o=>match o.op with | .defer _=>false | _=>true)=true) (hS:S w.drew)
  (h:S w.drew→wpAnyH P .any lo.toArray (Norm Q) S lo.toArray.size (Array.replicate lo.toArray.size false) a w.drew):(Code.region id lo.toArray true).wpIn (Fence.wide.inRound l) n P Q a w :=
 wpIn_region_any hm (wpAnyIn_of_wide (no_defer hst) _ _ _ _ (wpAny_of_held _ _ _ _ (h hS)))
end
end Go.Proofs.YtkpngknbiecdiaaGreatDoor.Round
end
section
namespace Go.Proofs.YtkpngknbiecdiaaGreatDoor.CAct
open Go Go.ChangeShapes Go.WideShapes Go.ChangeAt Go.RowKit Go.Deep
open Plain CSat CFix CShape CTensor CConv
set_option linter.unusedVariables false
def NBd (Z Y m1 z1 m2 z2 lo hi:Int):Prop:=(-128≤Z∧Z≤127)∧(-128≤Y∧Y≤127)∧(-2147483648≤m1∧m1≤2147483647)∧(-128≤z1∧z1≤127)∧(-2147483648≤m2∧m2≤2147483647)∧(-128≤z2∧z2≤127)∧(-128≤lo∧lo≤127)∧(-128≤hi∧hi≤127)
set_option maxRecDepth 100000 in
set_option maxHeartbeats 4000000 in
theorem aone_to (x:Int) (hx1 : -128≤x) (hx2:x≤127) (x0 x1 x2:Value) (K S P O Z Y:Int) (WA BA:Option Addr) (nW cW nB cB:Nat) (m1 s1 z1 m2 s2 z2 lo hi:Int) (hnb:NBd Z Y m1 z1 m2 z2 lo hi) (R:Int) (hR:heldZ (x - Z) m1 s1 z1 lo hi=R) (w:World) :
  Calls Tryz.prog 62 #[.int .i8 x,.agg #[x0,x1,x2,.int .i64 K,.int .i64 S,.int .i64 P,.int .i64 O,.int .i8 Z,.int .i8 Y,.slice WA nW cW,.slice BA nB cB,.int .i32 m1,.int .i64 s1,.int .i8 z1,.int .i32 m2,.int .i64 s2,.int .i8 z2,.int .i8 lo,.int .i8 hi]] w fun e w'=>e=.returned (.int .i8 R)∧Below w.heap.size w w':=by
 obtain⟨⟨hZ1,hZ2⟩, -,⟨hm3,hm1⟩,⟨hz1,hz2⟩, -, -,⟨hl1,hl2⟩,⟨hh1,hh2⟩⟩:=hnb
 have e1:IntKind.i32.wrap x=x:=IntWalk.i32_in _ (by omega)
 have e2:IntKind.i32.wrap Z=Z:=IntWalk.i32_in _ (by omega)
 have e3:IntKind.i32.wrap (x - Z)=x - Z:=IntWalk.i32_in _ (by omega)
 have hal:Below w.heap.size w (w.alloc (.cells #[x0,x1,x2,.int .i64 K,.int .i64 S,.int .i64 P,.int .i64 O,.int .i8 Z,.int .i8 Y,.slice WA nW cW,.slice BA nB cB,.int .i32 m1,.int .i64 s1,.int .i8 z1,.int .i32 m2,.int .i64 s2,.int .i8 z2,.int .i8 lo,.int .i8 hi] 28)):=(Below.refl _ _).alloc (Nat.le_refl _) _
 have HAL:=Lib.hid hal
 have HR:=Lib.hid hR
 have TN:=NodeAt.new x0 x1 x2 (.int .i8 Y) (.int .i32 m1) (.int .i64 s1) (.int .i8 z1) (.int .i32 m2) (.int .i64 s2) (.int .i8 z2) (.int .i8 lo) (.int .i8 hi) K S P O Z WA BA nW cW nB cB 28 w
 clear hal hR
 go_enter Tryz.func62,Tryz.ntmps62
 have n7:=TN.at 7 _ rfl
 have n11:=TN.at 11 _ rfl
 have n12:=TN.at 12 _ rfl
 have n13:=TN.at 13 _ rfl
 have n17:=TN.at 17 _ rfl
 have n18:=TN.at 18 _ rfl
 clear TN
 go_wp2_with (go_at_call 107;(refine (held _ _ _ _ _ _ (by omega) (by omega) hm3 hm1 hz1 hz2 hl1 hl2 hh1 hh2 _).mono ?_);rintro e w1 ⟨rfl,hb⟩)
 go_ret
 exact⟨congrArg (fun z=>Ending.returned (.int .i8 z)) HR.out,HAL.out.trans (hb.mono HAL.out.size)⟩
theorem isRight_to (m s z:Int) (w:World):Calls Tryz.prog 50 #[.agg #[.int .i32 m,.int .i64 s,.int .i8 z]] w fun e w'=>e=.returned (.bool (rightB m s))∧Below w.heap.size w w':=by
 cases h:rightB m s
 ·exact isRight_no m s z h w
 ·exact isRight_yes m s z h w
end Go.Proofs.YtkpngknbiecdiaaGreatDoor.CAct
end
section
namespace Go.Proofs.YtkpngknbiecdiaaGreatDoor.CPad
open Go Go.ChangeShapes Go.WideShapes Go.ChangeAt Go.RowKit
open Plain CSat CShape CTensor
set_option linter.unusedVariables false
theorem check_to (H W C:Int) (A:Option Addr) (n c:Nat) (p:Int) (r:Int) (hr:(if tensB H W C n=true then (if p < 0∨4 < p then 2 else 0) else 5)=r) (w:World) :
  Calls Tryz.prog 63 #[.agg #[.int .i64 H,.int .i64 W,.int .i64 C,.slice A n c],.int .i64 p] w fun e w'=>e=.returned (.int .i64 r)∧Below w.heap.size w w':=by
 cases ht:tensB H W C n
 ·rw [ht] at hr
  simp at hr
  subst hr
  have HT:=Lib.hid ht
  clear ht
  go_enter Tryz.func63,Tryz.ntmps63
  go_wp2_with (go_at_call 17;(refine (right_to H W C A n c false HT.out _).mono ?_);rintro e w1 ⟨rfl,hb⟩;(have HB:=Lib.hid (((Below.refl w.heap.size w).alloc (Nat.le_refl _) _).trans (hb.mono (by simp))));clear hb)
  go_ret
  exact⟨rfl,HB.out⟩
 ·rw [ht,if_pos rfl] at hr
  have HT:=Lib.hid ht
  clear ht
  rcases (show p < 0∨(0≤p∧4 < p)∨(0≤p∧p≤4) by omega) with h | ⟨h,h2⟩ | ⟨h,h2⟩
  ·rw [if_pos (Or.inl h)] at hr
   subst hr
   go_enter Tryz.func63,Tryz.ntmps63
   go_wp2_with (go_at_call 17;(refine (right_to H W C A n c true HT.out _).mono ?_);rintro e w1 ⟨rfl,hb⟩;(have HB:=Lib.hid (((Below.refl w.heap.size w).alloc (Nat.le_refl _) _).trans (hb.mono (by simp))));clear hb)
   go_ret
   exact⟨rfl,HB.out⟩
  ·rw [if_pos (Or.inr h2)] at hr
   subst hr
   go_enter Tryz.func63,Tryz.ntmps63
   go_wp2_with (go_at_call 17;(refine (right_to H W C A n c true HT.out _).mono ?_);rintro e w1 ⟨rfl,hb⟩;(have HB:=Lib.hid (((Below.refl w.heap.size w).alloc (Nat.le_refl _) _).trans (hb.mono (by simp))));clear hb)
   go_ret
   exact⟨rfl,HB.out⟩
  ·rw [if_neg (by omega)] at hr
   subst hr
   go_enter Tryz.func63,Tryz.ntmps63
   go_wp2_with (go_at_call 17;(refine (right_to H W C A n c true HT.out _).mono ?_);rintro e w1 ⟨rfl,hb⟩;(have HB:=Lib.hid (((Below.refl w.heap.size w).alloc (Nat.le_refl _) _).trans (hb.mono (by simp))));clear hb)
   go_ret
   exact⟨rfl,HB.out⟩
theorem widened_to (H W C p:Int) (h1:1≤H) (h2:H≤16) (h3:1≤W) (h4:W≤16) (p1 : -4≤p) (p2:p≤4) (w:World) :
  Calls Tryz.prog 65 #[.agg #[.int .i64 H,.int .i64 W,.int .i64 C],.int .i64 p] w fun e w'=>e=.returned (.agg #[.int .i64 (H+2 * p),.int .i64 (W+2 * p),.int .i64 C])∧Below w.heap.size w w':=by
 go_enter Tryz.func65,Tryz.ntmps65
 go_wp2_with fail
 refine bodyPost_ret (Kit.results_c rfl _ _ (w.heap.size+1) 0 [.int .i64 (H+2 * p),.int .i64 (W+2 * p),.int .i64 C] _ rfl (Kit.range_3 (by go_cell) (by go_cell) (by go_cell)) Tryz.underlying30 rfl (by kernel_rfl)) rfl ?_
 exact⟨rfl,by go_grown⟩
def MovedAt (B:Nat) (H W C:Int) (A:Option Addr) (n c:Nat) (p q z:Int) (wd:World):Prop :=
 BoxAt B H W C A n c wd∧wd.cell? ⟨B+1,0,none⟩=some (.int .i64 p)∧wd.cell? ⟨B+2,0,none⟩=some (.int .i64 q)∧wd.cell? ⟨B+3,0,none⟩=some (.int .i8 z)
theorem MovedAt.below {B B':Nat} {H W C:Int} {A:Option Addr} {n c:Nat} {p q z:Int} {w w':World} (h:MovedAt B H W C A n c p q z w) (hB:B+4≤B') (hb:Below B' w w'):MovedAt B H W C A n c p q z w':=by
 obtain⟨h0,h1,h2,h3⟩:=h
 exact⟨h0.below (by omega) hb,(hb.cell (p:=⟨B+1,0,none⟩) (by show B+1 < B';omega)).trans h1,(hb.cell (p:=⟨B+2,0,none⟩) (by show B+2 < B';omega)).trans h2,(hb.cell (p:=⟨B+3,0,none⟩) (by show B+3 < B';omega)).trans h3⟩
def movedF (B:Nat):Value:=.func (.func 109) #[] #[.pointer (some ⟨B,0,none⟩),.pointer (some ⟨B+1,0,none⟩),.pointer (some ⟨B+2,0,none⟩),.pointer (some ⟨B+3,0,none⟩)]
theorem moved_to (H W C:Int) (A:Option Addr) (n c:Nat) (p q z:Int) (w:World) :
  Calls Tryz.prog 66 #[.agg #[.int .i64 H,.int .i64 W,.int .i64 C,.slice A n c],.int .i64 p,.int .i64 q,.int .i8 z] w fun e w'=>e=.returned (movedF w.heap.size)∧MovedAt w.heap.size H W C A n c p q z w'∧w.heap.size+4≤w'.heap.size∧Below w.heap.size w w':=by
 go_enter Tryz.func66,Tryz.ntmps66
 go_wp2_with fail
 go_ret
 refine⟨rfl,⟨⟨?_,?_,?_,?_⟩,?_,?_,?_⟩,by simp,by go_grown⟩
 all_goals go_cell
set_option maxHeartbeats 1000000 in
theorem moved1_in (H W C:Int) (A:Option Addr) (zs:List Int) (n c:Nat) (hn:zs.length=n) (hc:n≤c) (ht:tensB H W C n=true) (r s k p q z h v:Int) (hh:IntKind.i64.wrap (r - p)=h) (hv:IntKind.i64.wrap (s - q)=v) (k0:0≤k) (k1:k < C) (h0:0≤h) (h1:h < H) (v0:0≤v) (v1:v < W) (x:Int) (hx:zs.getD ((h * W+v) * C+k).toNat 0=x)
  {B Bz:Nat} (W0:World) (hM:MovedAt B H W C A n c p q z W0) (hB:B+4≤W0.heap.size) (hBz:Bz≤W0.heap.size) (hr:Kit.Rd W0 Bz A (I8s zs)) :
  Calls Tryz.prog 109 #[.int .i64 r,.int .i64 s,.int .i64 k,.pointer (some ⟨B,0,none⟩),.pointer (some ⟨B+1,0,none⟩),.pointer (some ⟨B+2,0,none⟩),.pointer (some ⟨B+3,0,none⟩)] W0 fun e w'=>e=.returned (.int .i8 x)∧Below W0.heap.size W0 w':=by
 have hs:shapeB H W C=true:=by simp only [tensB,Bool.and_eq_true] at ht;exact ht.1
 have hm:(n:Int)=H * W * C:=by simp only [tensB,Bool.and_eq_true,decide_eq_true_eq] at ht;exact ht.2
 obtain⟨g1,g2,g3,g4,g5,g6,g7,g8⟩:=place_bd hs hm h0 h1 v0 v1 k0 k1
 obtain⟨pp,hpp⟩:∃ pp:Nat,(h * W+v) * C+k=(pp:Int):=⟨((h * W+v) * C+k).toNat,by omega⟩
 have hpn:pp < n:=by omega
 have hn9:n≤1000000:=by
  have:=(shapeB_yes hs).2.2.2.2.2.2;omega
 have hx2:zs[pp]?=some x:=by
  rw [hpp] at hx
  rw [List.getElem?_eq_getElem (by omega), ← hx]
  simp [List.getD_eq_getElem?_getD,List.getElem?_eq_getElem (show pp < zs.length by omega)]
 have hpl:placeB H W C n h v k=true:=by
  simp only [placeB,inB,Bool.and_eq_true,decide_eq_true_eq]
  exact⟨ht,hs,h0,h1,v0,v1,k0,k1⟩
 have HPL:=Lib.hid hpl
 have HPP:=Lib.hid hpp
 have HX:=Lib.hid hx2
 have HN:=Lib.hid hn
 have HR:=Lib.hid hr
 obtain⟨⟨c0,c1,c2,c3⟩,c4,c5,c6⟩:=hM
 clear hpl hpp hx2 hx hn hr ht hs hm g1 g2 g3 g4 g5 g6 g7 g8
 go_enter Tryz.func109,Tryz.ntmps109
 go_wp2_with (go_at_call 110;(refine (at_yes H W C A zs n c HN.out hc hn9 h v k pp HPL.out HPP.out x HX.out (B:=Bz) _ hBz HR.out).mono ?_);rintro e w1 ⟨rfl,hb⟩;(have HB:=Lib.hid hb);clear hb)
 go_ret
 exact⟨rfl,HB.out⟩
set_option maxHeartbeats 1000000 in
theorem moved1_out (H W C:Int) (A:Option Addr) (n c:Nat) (r s k p q z h v:Int) (hh:IntKind.i64.wrap (r - p)=h) (hv:IntKind.i64.wrap (s - q)=v) (ho:¬ (0≤h∧h < H∧0≤v∧v < W))
  {B:Nat} (W0:World) (hM:MovedAt B H W C A n c p q z W0) (hB:B+4≤W0.heap.size) :
  Calls Tryz.prog 109 #[.int .i64 r,.int .i64 s,.int .i64 k,.pointer (some ⟨B,0,none⟩),.pointer (some ⟨B+1,0,none⟩),.pointer (some ⟨B+2,0,none⟩),.pointer (some ⟨B+3,0,none⟩)] W0 fun e w'=>e=.returned (.int .i8 z)∧Below W0.heap.size W0 w':=by
 have hpl:placeB H W C n h v k=false:=by
  cases hb:placeB H W C n h v k
  ·rfl
  ·simp only [placeB,inB,Bool.and_eq_true,decide_eq_true_eq] at hb
   obtain⟨-, -,a1,a2,a3,a4, -⟩:=hb
   exact absurd ⟨a1,a2,a3,a4⟩ ho
 have HPL:=Lib.hid hpl
 obtain⟨⟨c0,c1,c2,c3⟩,c4,c5,c6⟩:=hM
 clear hpl ho
 go_enter Tryz.func109,Tryz.ntmps109
 go_wp2_with (go_at_call 110;(refine (at_no H W C A n c h v k HPL.out _).mono ?_);rintro e w1 ⟨rfl,hb⟩;(have c6:=(hb.cell (p:=⟨B+3,0,none⟩) (by show B+3 < _;omega)).trans c6);(have HB:=Lib.hid hb);clear hb)
 go_ret
 exact⟨rfl,HB.out⟩
theorem moved1_to (H W C:Int) (A:Option Addr) (zs:List Int) (n c:Nat) (hn:zs.length=n) (hc:n≤c) (ht:tensB H W C n=true) (r s k p q z h v:Int) (hh:IntKind.i64.wrap (r - p)=h) (hv:IntKind.i64.wrap (s - q)=v) (k0:0≤k) (k1:k < C) (x:Int) (hx:pixZ zs H W C h v k z=x)
  {B Bz:Nat} (W0:World) (hM:MovedAt B H W C A n c p q z W0) (hB:B+4≤W0.heap.size) (hBz:Bz≤W0.heap.size) (hr:Kit.Rd W0 Bz A (I8s zs)) :
  Calls Tryz.prog 109 #[.int .i64 r,.int .i64 s,.int .i64 k,.pointer (some ⟨B,0,none⟩),.pointer (some ⟨B+1,0,none⟩),.pointer (some ⟨B+2,0,none⟩),.pointer (some ⟨B+3,0,none⟩)] W0 fun e w'=>e=.returned (.int .i8 x)∧Below W0.heap.size W0 w':=by
 unfold pixZ at hx
 by_cases hi:0≤h∧h < H∧0≤v∧v < W
 ·rw [if_pos hi] at hx
  exact moved1_in H W C A zs n c hn hc ht r s k p q z h v hh hv k0 k1 hi.1 hi.2.1 hi.2.2.1 hi.2.2.2 x hx W0 hM hB hBz hr
 ·rw [if_neg hi] at hx
  subst hx
  exact moved1_out H W C A n c r s k p q z h v hh hv hi W0 hM hB
end Go.Proofs.YtkpngknbiecdiaaGreatDoor.CPad
end
