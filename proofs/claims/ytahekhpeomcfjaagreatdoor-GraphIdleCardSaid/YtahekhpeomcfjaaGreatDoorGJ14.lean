/- -/
import Derived.Test.YtahekhpeomcfjaaGreatDoorGJ12
import Derived.Test.YtahekhpeomcfjaaGreatDoorGJ13
open Go.Lib (hid)
open Nat (le_refl lt_of_succ_lt lt_succ_self)
set_option linter.unusedVariables false
set_option linter.unusedSimpArgs false
set_option maxRecDepth 100000
set_option maxHeartbeats 16000000
namespace Go.Proofs.YtahekhpeomcfjaaGreatDoor
namespace CConv
end CConv
namespace CFix
end CFix
namespace CSat
end CSat
namespace CShape
end CShape
namespace CTensor
end CTensor
open Go Go.ChangeShapes Go.WideShapes Go.ChangeAt Go.RowKit Go.Deep
section
namespace CTensor
open Go Go.ChangeShapes Go.WideShapes Go.ChangeAt Go.RowKit
open Plain CSat CShape
theorem eqShape (a b c x y z:Int) (w:World):(Op.equalIn 10000 24 (.agg #[.int .i64 a,.int .i64 b,.int .i64 c]) (.agg #[.int .i64 x,.int .i64 y,.int .i64 z])).run Tryz.prog w=.ok (a == x && (b == y && c == z)) w:=by
 have u3:=Tryz.underlying3
 have a3:=Tryz.isAgg3
 have z3:=Tryz.sizeOf3
 have hS:Tryz.prog.underlying 24=some (.struct (Tryz.prog.fieldsOf 24)):=by kernel_rfl
 rw [show (10000:Nat)=9999+1 from rfl,run_equalIn_agg w 9999 24 _ _ hS Tryz.stoodInHeld24]
 simp only [Program.fieldsOf,Tryz.underlying24]
 go_simp
 by_cases h1:a=x <;> by_cases h2:b=y <;> by_cases h3:c=z <;> simp [h1,h2,h3]
theorem differ {xs ys:List Int} {k:Nat} (h1:k < xs.length) (h2:k < ys.length) (h:¬ xs[k]=ys[k]):decide (xs=ys)=false:=by
 simp only [decide_eq_false_iff_not]
 intro e
 subst e
 exact h rfl
theorem refSame_0 (c d:Nat) (w:World) :
  Calls Tryz.prog 10 #[.agg #[.int .i64 0,.int .i64 0,.int .i64 0,.slice none 0 c],.agg #[.int .i64 0,.int .i64 0,.int .i64 0,.slice none 0 d]] w fun e w'=>e=.returned (.bool true)∧Below w.heap.size w w':=by
 have HE:=eqShape 0 0 0 0 0 0
 have hg:=Tryz.eqGuardType24
 go_enter Tryz.func10,Tryz.ntmps10
 go_wp2_with fail
 go_loop [5] (fun i=>i=.int .i64 0) (fun _=>0)
 case atStart=>rfl
 case round =>
  obtain rfl:=hrel
  go_wp2
  go_ret
  exact⟨rfl,((Below.refl _ _).alloc (le_refl _) _).alloc (by simp) _⟩
end CTensor
end
section
namespace CKind
open Plain CSat CFix CShape CTensor CConv
def NamesIn (w:World):Prop:=∀ n:Nat,n < 10→w.cell? ⟨0,n,none⟩=some (.string (kname n))
theorem NamesIn.size {w:World} (h:NamesIn w):0 < w.heap.size:=by
 have h0:=h 0 (by decide)
 unfold World.cell? at h0
 rcases Nat.lt_or_ge 0 w.heap.size with hlt | hge
 ·exact hlt
 ·rw [show w.heap[(⟨0,0,none⟩:Addr).block]?=none from Array.getElem?_eq_none hge] at h0
  cases h0
theorem NamesIn.below {w w':World} {n:Nat} (h:NamesIn w) (hb:Below n w w') (hn:0 < n):NamesIn w':=fun j hj=>(hb.cell (p:=⟨0,j,none⟩) hn).trans (h j hj)
theorem NamesIn.grown {w w':World} (h:NamesIn w) (hb:Below w.heap.size w w'):NamesIn w':=h.below hb h.size
theorem name_to (k:Int) (w:World) (hT:NamesIn w):Calls Tryz.prog 110 #[.int .i64 k] w fun e w'=>e=.returned (.string (kname k))∧w=w':=by
 by_cases h:k < 0∨9 < k
 ·have HK:=hid (kname_no (k:=k) (by omega))
  rcases h with h | h
  ·go_enter Tryz.func110,Tryz.ntmps110
   go_wp2_with fail
   go_ret
   exact⟨by rw [HK.out];rfl,rfl⟩
  ·have h2:¬ k < 0:=by omega
   have h3:(10:Int)≤k:=by omega
   go_enter Tryz.func110,Tryz.ntmps110
   go_wp2_with fail
   go_ret
   exact⟨by rw [HK.out];rfl,rfl⟩
 ·obtain⟨n,rfl⟩:∃ n:Nat,k=(n:Int):=⟨k.toNat,by omega⟩
  have h9:n < 10:=by omega
  have hc:=hT n h9
  obtain⟨s,hs⟩:∃ s,kname (n:Int)=s:=⟨_,rfl⟩
  rw [hs] at hc ⊢
  have h0:¬ (n:Int) < 0:=by omega
  have h10:¬ (10:Int)≤(n:Int):=by omega
  have h11:(n:Int) < 10:=by omega
  clear hs hT h
  go_enter Tryz.func110,Tryz.ntmps110
  go_wp2_with fail
  go_ret
  exact⟨rfl,rfl⟩
def knownB (k:Int):Bool:=decide (1≤k∧k≤9)
theorem kname_ne (k:Int):(kname k).toList.isEmpty = !knownB k:=by
 rw [ByteArray.toList_eq]
 by_cases h:k < 1∨9 < k
 ·rw [kname_no h,show knownB k=false from decide_eq_false (by omega)];decide
 ·have:k=1∨k=2∨k=3∨k=4∨k=5∨k=6∨k=7∨k=8∨k=9:=by omega
  rcases this with rfl | rfl | rfl | rfl | rfl | rfl | rfl | rfl | rfl <;> decide
theorem known_to (k:Int) (w:World) (hT:NamesIn w):Calls Tryz.prog 70 #[.int .i64 k] w fun e w'=>e=.returned (.bool (knownB k))∧w=w':=by
 have HN:=hid (name_to k w hT)
 have hne:=kname_ne k
 clear hT
 obtain⟨s,hs⟩:∃ s,kname k=s:=⟨_,rfl⟩
 rw [hs] at HN hne
 clear hs
 cases hb:knownB k
 all_goals
  rw [hb] at hne
  simp only [Bool.not_false,Bool.not_true] at hne
  clear hb
  go_enter Tryz.func70,Tryz.ntmps70
  go_wp2_with (go_at_call 110;(with_reducible refine HN.out.mono ?_);rintro e w1 ⟨rfl,rfl⟩)
  go_ret
  exact⟨rfl,rfl⟩
theorem sums_to (k:Int) (w:World):Calls Tryz.prog 112 #[.int .i64 k] w fun e w'=>e=.returned (.bool (sumsB k))∧w=w':=by
 go_enter Tryz.func112,Tryz.ntmps112
 go_wp2_with fail
 all_goals go_ret
 all_goals exact⟨by simp_all [sumsB],rfl⟩
theorem scaled_to (k:Int) (w:World):Calls Tryz.prog 73 #[.int .i64 k] w fun e w'=>e=.returned (.bool (zbv k))∧w=w':=by
 have HS:=hid (sums_to k)
 obtain⟨b,hb⟩:∃ b,sumsB k=b:=⟨_,rfl⟩
 have HZ:Hid (zbv k=(b || k == 6 || k == 7)):=hid (by rw [← hb];rfl)
 rw [hb] at HS
 clear hb
 cases b
 all_goals
  go_enter Tryz.func73,Tryz.ntmps73
  go_wp2_with (go_at_call 112;(with_reducible refine (HS.out _).mono ?_);rintro e w1 ⟨rfl,rfl⟩)
  all_goals go_ret
  all_goals exact⟨by rw [HZ.out];simp_all,rfl⟩
end CKind
end
section
namespace CKind
open Plain CSat CShape CTensor CConv
theorem own_to (x:Nd) (h:1≤x.kd∧x.kd≤9) (w:World) :
  Calls Tryz.prog 72 #[.agg x.val] w fun e w'=>e=.returned (.agg (x.ownK x.kd).val)∧Below w.heap.size w w':=by
 have:x.kd=1∨x.kd=2∨x.kd=3∨x.kd=4∨x.kd=5∨x.kd=6∨x.kd=7∨x.kd=8∨x.kd=9:=by omega
 rcases this with h | h | h | h | h | h | h | h | h
 ·rw [h];exact own_1 x h w
 ·rw [h];exact own_2 x h w
 ·rw [h];exact own_3 x h w
 ·rw [h];exact own_4 x h w
 ·rw [h];exact own_5 x h w
 ·rw [h];exact own_6 x h w
 ·rw [h];exact own_7 x h w
 ·rw [h];exact own_8 x h w
 ·rw [h];exact own_9 x h w
end CKind
end
section
namespace CFix
open Go Go.ChangeShapes Go.WideShapes Go.ChangeAt Go.RowKit
open Plain CSat
theorem scale_int (a m s t:Int) (h1:0≤s) (h2:s≤62) (ha1 : -2147483648≤a) (ha2:a≤2147483647) (hm1 : -2147483648≤m) (hm2:m≤2147483647) (ht:zby (a * m) s.toNat=t) (w:World) :
  Calls Tryz.prog 134 #[.int .i32 a,.int .i32 m,.int .i64 s] w fun e w'=>e=.returned (.int .i64 t)∧w=w':=by
 obtain⟨n,rfl⟩:=Int.eq_ofNat_of_zero_le h1
 exact ht ▸ scale_yes a m n (by omega) ha1 ha2 hm1 hm2 w
def Owned (w:World) (T size n:Nat) (xs:List Value) (e:Ending) (w':World):Prop :=
 ∃ v,e=.returned v∧w'.ownsRow w.heap.size T size v n xs∧Below w.heap.size w w'
def I32s (zs:List Int):Prop:=∀ z∈zs, -2147483648≤z∧z≤2147483647
theorem info8:(Tryz.prog.info? 39).map (fun i=>(i.zero,i.size,i.bytes))=some (some (.int .i8 0),1,1):=by kernel_rfl
theorem all_yes (A:Option Addr) (zs:List Int) (c:Nat) (m s z lo hi:Int) (hr:za0 m s=true) (hlen:zs.length≤1000000) (hzs:I32s zs) (hm1 : -2147483648≤m) (hm2:m≤2147483647) (hz1 : -128≤z) (hz2:z≤127)
  (hl1 : -128≤lo) (hl2:lo≤127) (hh1 : -128≤hi) (hh2:hi≤127) (L:List Value) (hL:L=(zs.map fun a=>heldZ a m s z lo hi).map (Value.int .i8)) (w:World) (hrd:Kit.Rd w w.heap.size A (zs.map (.int .i32))) :
  Calls Tryz.prog 130 #[.slice A zs.length c,.agg #[.int .i32 m,.int .i64 s,.int .i8 z],.int .i8 lo,.int .i8 hi] w
   (Owned w 39 1 zs.length L):=by
 have hLl:L.length=zs.length:=by rw [hL];simp
 have HL:=hid hL
 have HLL:=hid hLl
 have HR:=hid hr
 clear hr hL hLl
 go_enter Tryz.func130,Tryz.ntmps130
 obtain⟨i0,hi0,hi1,hi2,hi3⟩:=info_parts info8
 go_wp2_with (first
  | (go_at_call 74;refine (zce _ _ _ HR.out _).mono ?_;rintro e w1 ⟨rfl,hb⟩)
  | (at_make;refine wpList_make_full _ rfl (.tmp 15) (.tmp 15) _ rfl (w.heap.size+1) 39 i0 (.int .i8 0) 1 Tryz.underlying25 hi0 hi1 hi2 .i64 .i64 _ _ zs.length rfl rfl rfl rfl (by rw [hi3];omega) (by unfold maxLen;omega) (by have:=hb.size;simpa using this) ?_;intro w2 hown hg2))
 have hB2:Below (w.heap.size+1) (w.alloc (.cells #[.int .i32 m,.int .i64 s,.int .i8 z] 42)) w2 :=
  (by simpa using hb:Below (w.heap.size+1) _ w1).grown hg2 (by simpa using hb.size) (fun q hq=>by cases hq)
 have hgs:w.heap.size < w1.heap.size:=by have:=hb.size;simp at this;omega
 rw [show (madeCells (Value.int IntKind.i8 0).cells (zs.length * 1)).toList=List.replicate zs.length (.int .i8 0) by rw [Nat.mul_one];exact toList_madeCells_one _ _] at hown
 generalize w1.heap.size=g at *
 have hown0:w2.ownsRow (w.heap.size+1) 39 1 (.slice (some ⟨g,0,none⟩) zs.length zs.length) zs.length (Kit.filled L (.int .i8 0) 0):=by rw [Kit.filled_zero,HLL.out];exact hown
 have HOWN:=hid hown0
 have HB2:=hid hB2
 have HRD:=hid hrd
 clear hb hg2 hB2 hrd hown hown0
 go_loopw [19] (fun i wr=>∃ k:Nat,k≤zs.length∧i=.int .i64 k∧Hid (wr.ownsRow (w.heap.size+1) 39 1 (.slice (some ⟨g,0,none⟩) zs.length zs.length) zs.length (Kit.filled L (.int .i8 0) k))∧Hid (Below (w.heap.size+1) w2 wr)) (fun i _=>zs.length - (intOf i).toNat)
 case atStart=>exact⟨0,Nat.zero_le _,rfl,HOWN,hid (Below.refl _ _)⟩
 case round =>
  obtain⟨k,hk,rfl,hown1,hb1⟩:=hrel
  by_cases hlt:k < zs.length
  ·obtain⟨b,off,rfl,hbw,hx⟩:=HRD.out.ints hlt
   obtain⟨hx1,hx2⟩:=hzs zs[k] (List.getElem_mem hlt)
   have hbt:=HB2.out.trans hb1.out
   have hszt:w.heap.size+1≤wr.heap.size:=by have:=hbt.size;simpa using this
   have hga:g < wr.heap.size:=Kit.zao hown1.out
   have cx:wr.cell? ⟨b,off+k,none⟩=some (.int .i32 zs[k]):=by rw [hbt.cell (p:=⟨b,off+k,none⟩) (by simp;omega),World.cell?_alloc_lt _ _ _ hbw];exact hx
   have c0:wr.cell? ⟨w.heap.size,0,none⟩=some (.int .i32 m):=(hbt.cell (p:=⟨w.heap.size,0,none⟩) (by simp)).trans (Kit.zaf _ _ _ _)
   have c1:wr.cell? ⟨w.heap.size,1,none⟩=some (.int .i64 s):=(hbt.cell (p:=⟨w.heap.size,1,none⟩) (by simp)).trans (Kit.zaf _ _ _ _)
   have c2:wr.cell? ⟨w.heap.size,2,none⟩=some (.int .i8 z):=(hbt.cell (p:=⟨w.heap.size,2,none⟩) (by simp)).trans (Kit.zaf _ _ _ _)
   have cd:wr.cell? ⟨g,k,none⟩=some (.int .i8 0):=by
    rw [hown1.out.cellAt k (by omega)]
    exact Kit.filled_at L _ (by rw [HLL.out];exact hlt)
   have fd:wr.frozen? ⟨g,k,none⟩=false:=hown1.out.frozenAt k
   have lw:w.heap.size < wr.heap.size:=by omega
   have lb:b < wr.heap.size:=by omega
   have nb:g≠b:=by omega
   have nw:g≠w.heap.size:=by omega
   generalize hxe:zs[k]=x at *
   have HX:=hid hxe
   have HBT:=hid hbt
   clear hxe hbt hx
   go_wp2_with fail
   go_region_held3 (fun w'=>w'.cell? ⟨b,off+k,none⟩=some (.int .i32 x)∧w'.cell? ⟨w.heap.size,0,none⟩=some (.int .i32 m)∧w'.cell? ⟨w.heap.size,1,none⟩=some (.int .i64 s)∧w'.cell? ⟨w.heap.size,2,none⟩=some (.int .i8 z)) (first | go_keep | exact⟨(World.cell?_setCell_far _ _ _ _ nb).trans e0,(World.cell?_setCell_far _ _ _ _ nw).trans e1,(World.cell?_setCell_far _ _ _ _ nw).trans e2,(World.cell?_setCell_far _ _ _ _ nw).trans e3⟩) ((first
    | (go_at_call 119;refine (held _ _ _ _ _ _ hx1 hx2 hm1 hm2 hz1 hz2 hl1 hl2 hh1 hh2 _).mono ?_;rintro e w3 ⟨rfl,hb3⟩;obtain⟨hc3,hf3⟩:=Kit.bcell hb3;have e0:=(hc3 _ _ lb).trans cx;have e1:=(hc3 _ _ lw).trans c0;have e2:=(hc3 _ _ lw).trans c1;have e3:=(hc3 _ _ lw).trans c2;have ed:=(hc3 _ _ hga).trans cd;have ef:=(hf3 _ _ hga).trans fd;clear hc3 hf3)))
   have hn3:=((Kit.own_below hown1.out ((Below.refl _ _).drew.trans hb3)).stored k (.int .i8 (heldZ x m s z lo hi))).1
   have hval:Value.int .i8 (heldZ x m s z lo hi)=L[k]'(by rw [HLL.out];exact hlt):=by
    have hLo:=HL.out
    subst hLo
    simp [HX.out]
   have hn4:(w3.setCell ⟨g,k,none⟩ (.int .i8 (heldZ x m s z lo hi))).ownsRow (w.heap.size+1) 39 1 (.slice (some ⟨g,0,none⟩) zs.length zs.length) zs.length (Kit.filled L (.int .i8 0) (k+1)):=by
    rw [← Kit.filled_set L _ (by rw [HLL.out];exact hlt), ← hval];exact hn3
   have hbn:Below (w.heap.size+1) w2 (w3.setCell ⟨g,k,none⟩ (.int .i8 (heldZ x m s z lo hi))) :=
    (hb1.out.trans (((Below.refl _ _).drew.trans hb3).mono hszt)).setCell (by simp;omega) _
   have HN4:=hid hn4
   have HBN:=hid hbn
   clear hn3 hval hn4 hbn hb3 e0 e1 e2 e3 ed ef cx c0 c1 c2 cd fd
   go_wp2
   go_roundw
   case rel=>exact⟨k+1,by omega,by go_num,HN4,HBN⟩
   case measure=>simp [intOf];omega
  ·have hke:k=zs.length:=by omega
   have hfin:wr.ownsRow (w.heap.size+1) 39 1 (.slice (some ⟨g,0,none⟩) zs.length zs.length) zs.length L:=by
    have:=hown1.out
    rwa [Kit.filled_all L _ (by rw [HLL.out];omega)] at this
   have HF:=hid hfin
   clear hke hfin
   go_wp2_with fail
   go_ret
   exact⟨_,rfl,Kit.zah HF.out (by omega),((Below.refl w.heap.size w).alloc (le_refl _) _).trans ((HB2.out.trans hb1.out).mono (by omega))⟩
end CFix
end
section
namespace CPatch
open Go Go.ChangeShapes Go.WideShapes Go.ChangeAt Go.RowKit
open Plain CSat CShape CTensor CConv
theorem zc1 {B gd:Nat} {H W C:Int} {w w':World} (h:zau B H W C w) (hg:w.grownBy w' (some gd)) (hB:B < w.heap.size) (hne:gd≠B):zau B H W C w' :=
 ⟨(hg.cell_far ⟨B,0,none⟩ hB (by simp;omega)).trans h.1,(hg.cell_far ⟨B,1,none⟩ hB (by simp;omega)).trans h.2.1,(hg.cell_far ⟨B,2,none⟩ hB (by simp;omega)).trans h.2.2⟩
theorem NodeAt_grown {B gd:Nat} {x0 x1 x2 x8 x11 x12 x13 x14 x15 x16 x17 x18:Value} {K S P O Z:Int} {WA BA:Option Addr} {nW cW nB cB:Nat} {w w':World} (h:zai B x0 x1 x2 x8 x11 x12 x13 x14 x15 x16 x17 x18 K S P O Z WA BA nW cW nB cB w) (hg:w.grownBy w' (some gd)) (hB:B < w.heap.size) (hne:gd≠B):zai B x0 x1 x2 x8 x11 x12 x13 x14 x15 x16 x17 x18 K S P O Z WA BA nW cW nB cB w':=fun j v hj =>
 (hg.cell_far ⟨B,0+j,none⟩ hB (by simp;omega)).trans (h j v hj)
theorem begin_to (M Wd:Int) (x:Value) (i R:Int) (hR:IntKind.i64.wrap (i * Wd)=R) (w:World) :
  Calls Tryz.prog 154 #[.agg #[.int .i64 M,.int .i64 Wd,x],.int .i64 i] w fun e w'=>e=.returned (.int .i64 R)∧Below w.heap.size w w':=by
 go_enter Tryz.func154,Tryz.ntmps154
 go_wp2_with fail
 go_ret
 exact⟨rfl,(Below.refl _ _).alloc (le_refl _) _⟩
theorem empty_to (H W C a b c:Int) (x0 x1 x2 x8 x11 x12 x13 x14 x15 x16 x17 x18:Value) (K S P O Z:Int) (WA BA:Option Addr) (nW cW nB cB:Nat) (M k2 Wd:Int) (h1:IntKind.i64.wrap (a * b)=M) (h2:IntKind.i64.wrap (K * K)=k2) (h3:IntKind.i64.wrap (k2 * C)=Wd) (w:World) :
  Calls Tryz.prog 152 #[.agg #[.int .i64 H,.int .i64 W,.int .i64 C],.agg #[.int .i64 a,.int .i64 b,.int .i64 c],.agg #[x0,x1,x2,.int .i64 K,.int .i64 S,.int .i64 P,.int .i64 O,.int .i8 Z,x8,.slice WA nW cW,.slice BA nB cB,x11,x12,x13,x14,x15,x16,x17,x18]] w fun e w'=>e=.returned (.agg #[.int .i64 M,.int .i64 Wd,.slice none 0 0])∧Below w.heap.size w w':=by
 go_enter Tryz.func152,Tryz.ntmps152
 go_wp2_with fail
 refine bodyPost_ret (Kit.za6 rfl _ _ (w.heap.size+3) 0 [.int .i64 M,.int .i64 Wd,.slice none 0 0] _ rfl (Kit.zaq (by go_cell) (by go_cell) (by go_cell)) Tryz.underlying186 rfl (by kernel_rfl)) rfl ?_
 exact⟨rfl,by first | exact ((((Below.refl _ _).alloc (le_refl _) _).alloc (by simp) _).alloc (by simp;omega) _).alloc (by simp;omega) _ | (refine ((((((((Below.refl _ _).alloc (le_refl _) _).alloc (by simp) _).alloc (by simp;omega) _).alloc (by simp;omega) _).setCell ?_ _).setCell ?_ _).setCell ?_ _) <;> simp)⟩
end CPatch
end
section
namespace CJoin
open Plain CSat CFix CShape CTensor CConv
def NBd (Z Y m1 z1 m2 z2 lo hi:Int):Prop:=(-128≤Z∧Z≤127)∧(-128≤Y∧Y≤127)∧(-2147483648≤m1∧m1≤2147483647)∧(-128≤z1∧z1≤127)∧(-2147483648≤m2∧m2≤2147483647)∧(-128≤z2∧z2≤127)∧(-128≤lo∧lo≤127)∧(-128≤hi∧hi≤127)
def oneZ (x y Z Y m1 s1 z1 m2 s2 lo hi:Int):Int :=
 if (za0 m1 s1 && za0 m2 s2)=true then zcd (zby ((x - Z) * m1) s1.toNat+zby ((y - Y) * m2) s2.toNat+z1) lo hi else 0
theorem clampZ_bd (v lo hi:Int) (hl1 : -128≤lo) (hl2:lo≤127) (hh1 : -128≤hi) (hh2:hi≤127) : -128≤zcd v lo hi∧zcd v lo hi≤127:=by
 unfold zcd;split <;> (try split) <;> omega
theorem rightB_yes {m s:Int} (h:za0 m s=true):0 < m∧0≤s∧s≤62:=by simpa [za0] using h
theorem jclamp_to (v lo hi r:Int) (h:zcd v lo hi=r) (hl1 : -128≤lo) (hl2:lo≤127) (hh1 : -128≤hi) (hh2:hi≤127) (w:World) :
  Calls Tryz.prog 117 #[.int .i64 v,.int .i8 lo,.int .i8 hi] w fun e w'=>e=.returned (.int .i8 r)∧w=w':=by
 subst h
 by_cases h1:v < lo
 ·go_enter Tryz.func117,Tryz.ntmps117
  go_wp2
  go_ret
  exact⟨zcw (by exact clampZ_lo (by omega)),rfl⟩
 ·by_cases h2:v > hi
  ·go_enter Tryz.func117,Tryz.ntmps117
   go_wp2
   go_ret
   exact⟨zcw (by exact clampZ_hi (by omega) (by omega)),rfl⟩
  ·go_enter Tryz.func117,Tryz.ntmps117
   go_wp2
   go_ret
   exact⟨zcw (by exact clampZ_in (by omega) (by omega)),rfl⟩
theorem term_abs {x Z m:Int} (hx1 : -128≤x) (hx2:x≤127) (hz1 : -128≤Z) (hz2:Z≤127) (hm1:0 < m) (hm2:m≤2147483647) : -547608329985≤(x - Z) * m∧(x - Z) * m≤547608329985:=by
 have h1:(x - Z) * m≤255 * 2147483647:=by
  by_cases h:0≤x - Z
  ·exact Int.mul_le_mul (by omega) (by omega) (by omega) (by omega)
  ·exact Int.le_trans (Int.mul_nonpos_of_nonpos_of_nonneg (by omega) (by omega)) (by omega)
 have h2:(Z - x) * m≤255 * 2147483647:=by
  by_cases h:0≤Z - x
  ·exact Int.mul_le_mul (by omega) (by omega) (by omega) (by omega)
  ·exact Int.le_trans (Int.mul_nonpos_of_nonpos_of_nonneg (by omega) (by omega)) (by omega)
 have h3:(Z - x) * m = -((x - Z) * m):=by rw [← Int.neg_mul];congr 1;omega
 omega
theorem round_term {x Z m s:Int} (hx1 : -128≤x) (hx2:x≤127) (hz1 : -128≤Z) (hz2:Z≤127) (hm2:m≤2147483647) (h:za0 m s=true) : -547608329985≤zby ((x - Z) * m) s.toNat∧zby ((x - Z) * m) s.toNat≤547608329985:=by
 obtain⟨h1,h2,h3⟩:=rightB_yes h
 obtain⟨b1,b2⟩:=term_abs hx1 hx2 hz1 hz2 h1 hm2
 have:=round_abs ((x - Z) * m) s.toNat (by omega) (by omega) (by omega)
 omega
theorem scaled_to (x Z m s z t:Int) (hx1 : -128≤x) (hx2:x≤127) (hz1 : -128≤Z) (hz2:Z≤127) (hm2:m≤2147483647) (h:za0 m s=true) (ht:zby ((x - Z) * m) s.toNat=t) (w:World) :
  Calls Tryz.prog 118 #[.int .i8 x,.int .i8 Z,.agg #[.int .i32 m,.int .i64 s,.int .i8 z]] w fun e w'=>e=.returned (.int .i64 t)∧Below w.heap.size w w':=by
 obtain⟨h1,h2,h3⟩:=rightB_yes h
 obtain⟨y,hy⟩:∃ y,x - Z=y:=⟨_,rfl⟩
 have hw:IntKind.i32.wrap (x - Z)=y:=by rw [IntWalk.i32_in _ (by omega),hy]
 have e1:IntKind.i32.wrap x=x:=IntWalk.i32_in _ (by omega)
 have e2:IntKind.i32.wrap Z=Z:=IntWalk.i32_in _ (by omega)
 have y1 : -2147483648≤y:=by omega
 have y2:y≤2147483647:=by omega
 have m1 : -2147483648≤m:=by omega
 rw [hy] at ht
 have HT:=hid ht
 clear hy ht h
 go_enter Tryz.func118,Tryz.ntmps118
 go_wp2_with (go_at_call 134;refine (scale_int y m s t h2 h3 y1 y2 m1 hm2 HT.out _).mono ?_;rintro e w' ⟨rfl,rfl⟩)
 go_ret
 exact⟨rfl,(Below.refl _ _).alloc (le_refl _) _⟩
theorem zbp (m s z:Int) (w:World):Calls Tryz.prog 74 #[.agg #[.int .i32 m,.int .i64 s,.int .i8 z]] w fun e w'=>e=.returned (.bool (za0 m s))∧Below w.heap.size w w':=by
 cases h:za0 m s
 ·exact isRight_no m s z h w
 ·exact zce m s z h w
theorem scales_to (x0 x1 x2:Value) (K S P O Z Y:Int) (WA BA:Option Addr) (nW cW nB cB:Nat) (m1 s1 z1 m2 s2 z2 lo hi:Int) (w:World) :
  Calls Tryz.prog 85 #[.agg #[x0,x1,x2,.int .i64 K,.int .i64 S,.int .i64 P,.int .i64 O,.int .i8 Z,.int .i8 Y,.slice WA nW cW,.slice BA nB cB,.int .i32 m1,.int .i64 s1,.int .i8 z1,.int .i32 m2,.int .i64 s2,.int .i8 z2,.int .i8 lo,.int .i8 hi]] w fun e w'=>e=.returned (.bool (za0 m1 s1 && za0 m2 s2))∧Below w.heap.size w w':=by
 cases h1:za0 m1 s1 <;> cases h2:za0 m2 s2
 ·have H1:=hid h1
  have H2:=hid h2
  clear h1 h2
  go_enter Tryz.func85,Tryz.ntmps85
  go_wp2_with (first
   | (go_at_call 74
      have hal:Below w.heap.size w (w.alloc (.cells #[x0,x1,x2,.int .i64 K,.int .i64 S,.int .i64 P,.int .i64 O,.int .i8 Z,.int .i8 Y,.slice WA nW cW,.slice BA nB cB,.int .i32 m1,.int .i64 s1,.int .i8 z1,.int .i32 m2,.int .i64 s2,.int .i8 z2,.int .i8 lo,.int .i8 hi] 44)):=(Below.refl _ _).alloc (by first | exact le_refl _ | (simp;done) | (simp;omega)) _
      refine (zbp _ _ _ _).mono ?_
      rintro e w1 ⟨rfl,hb⟩
      have hh:Below w.heap.size w w1:=hal.trans (hb.mono hal.size)
      have qTN:=(zai.new x0 x1 x2 (.int .i8 Y) (.int .i32 m1) (.int .i64 s1) (.int .i8 z1) (.int .i32 m2) (.int .i64 s2) (.int .i8 z2) (.int .i8 lo) (.int .i8 hi) K S P O Z WA BA nW cW nB cB 44) w
      try simp only [World.size_alloc] at qTN
      have TN:=hid (qTN.below (by first | (simp;done) | (simp;omega)) hb)
      have yTN:w.heap.size < w1.heap.size:=by have:=hb.size;simp at this;omega
      clear qTN
      have HBW:Hid (Below w.heap.size w w1):=hid hh
      rw [H1.out]
      have n14:=TN.out.at 14 _ rfl
      have n15:=TN.out.at 15 _ rfl
      have n16:=TN.out.at 16 _ rfl
      clear hb hh hal))
  go_ret
  exact⟨rfl,HBW.out⟩
 ·have H1:=hid h1
  have H2:=hid h2
  clear h1 h2
  go_enter Tryz.func85,Tryz.ntmps85
  go_wp2_with (first
   | (go_at_call 74
      have hal:Below w.heap.size w (w.alloc (.cells #[x0,x1,x2,.int .i64 K,.int .i64 S,.int .i64 P,.int .i64 O,.int .i8 Z,.int .i8 Y,.slice WA nW cW,.slice BA nB cB,.int .i32 m1,.int .i64 s1,.int .i8 z1,.int .i32 m2,.int .i64 s2,.int .i8 z2,.int .i8 lo,.int .i8 hi] 44)):=(Below.refl _ _).alloc (by first | exact le_refl _ | (simp;done) | (simp;omega)) _
      refine (zbp _ _ _ _).mono ?_
      rintro e w1 ⟨rfl,hb⟩
      have hh:Below w.heap.size w w1:=hal.trans (hb.mono hal.size)
      have qTN:=(zai.new x0 x1 x2 (.int .i8 Y) (.int .i32 m1) (.int .i64 s1) (.int .i8 z1) (.int .i32 m2) (.int .i64 s2) (.int .i8 z2) (.int .i8 lo) (.int .i8 hi) K S P O Z WA BA nW cW nB cB 44) w
      try simp only [World.size_alloc] at qTN
      have TN:=hid (qTN.below (by first | (simp;done) | (simp;omega)) hb)
      have yTN:w.heap.size < w1.heap.size:=by have:=hb.size;simp at this;omega
      clear qTN
      have HBW:Hid (Below w.heap.size w w1):=hid hh
      rw [H1.out]
      have n14:=TN.out.at 14 _ rfl
      have n15:=TN.out.at 15 _ rfl
      have n16:=TN.out.at 16 _ rfl
      clear hb hh hal))
  go_ret
  exact⟨rfl,HBW.out⟩
 ·have H1:=hid h1
  have H2:=hid h2
  clear h1 h2
  go_enter Tryz.func85,Tryz.ntmps85
  go_wp2_with (first
   | (go_at_call 74
      have hal:Below w.heap.size w (w.alloc (.cells #[x0,x1,x2,.int .i64 K,.int .i64 S,.int .i64 P,.int .i64 O,.int .i8 Z,.int .i8 Y,.slice WA nW cW,.slice BA nB cB,.int .i32 m1,.int .i64 s1,.int .i8 z1,.int .i32 m2,.int .i64 s2,.int .i8 z2,.int .i8 lo,.int .i8 hi] 44)):=(Below.refl _ _).alloc (by first | exact le_refl _ | (simp;done) | (simp;omega)) _
      refine (zbp _ _ _ _).mono ?_
      rintro e w1 ⟨rfl,hb⟩
      have hh:Below w.heap.size w w1:=hal.trans (hb.mono hal.size)
      have qTN:=(zai.new x0 x1 x2 (.int .i8 Y) (.int .i32 m1) (.int .i64 s1) (.int .i8 z1) (.int .i32 m2) (.int .i64 s2) (.int .i8 z2) (.int .i8 lo) (.int .i8 hi) K S P O Z WA BA nW cW nB cB 44) w
      try simp only [World.size_alloc] at qTN
      have TN:=hid (qTN.below (by first | (simp;done) | (simp;omega)) hb)
      have yTN:w.heap.size < w1.heap.size:=by have:=hb.size;simp at this;omega
      clear qTN
      have HBW:Hid (Below w.heap.size w w1):=hid hh
      rw [H1.out]
      have n14:=TN.out.at 14 _ rfl
      have n15:=TN.out.at 15 _ rfl
      have n16:=TN.out.at 16 _ rfl
      clear hb hh hal)
   | (go_at_call 74
      have hal:Below w1.heap.size w1 w1:=Below.refl _ _
      refine (zbp _ _ _ _).mono ?_
      rintro e w2 ⟨rfl,hb⟩
      have hh:Below w1.heap.size w1 w2:=hal.trans (hb.mono hal.size)
      replace TN:=hid (TN.out.below yTN hh)
      replace yTN:=Nat.lt_of_lt_of_le yTN hh.size
      replace HBW:=hid (HBW.out.trans (hh.mono HBW.out.size))
      clear n14 n15 n16
      rw [H2.out]
      have n14:=TN.out.at 14 _ rfl
      have n15:=TN.out.at 15 _ rfl
      have n16:=TN.out.at 16 _ rfl
      clear hb hh hal))
  go_ret
  exact⟨rfl,HBW.out⟩
 ·have H1:=hid h1
  have H2:=hid h2
  clear h1 h2
  go_enter Tryz.func85,Tryz.ntmps85
  go_wp2_with (first
   | (go_at_call 74
      have hal:Below w.heap.size w (w.alloc (.cells #[x0,x1,x2,.int .i64 K,.int .i64 S,.int .i64 P,.int .i64 O,.int .i8 Z,.int .i8 Y,.slice WA nW cW,.slice BA nB cB,.int .i32 m1,.int .i64 s1,.int .i8 z1,.int .i32 m2,.int .i64 s2,.int .i8 z2,.int .i8 lo,.int .i8 hi] 44)):=(Below.refl _ _).alloc (by first | exact le_refl _ | (simp;done) | (simp;omega)) _
      refine (zbp _ _ _ _).mono ?_
      rintro e w1 ⟨rfl,hb⟩
      have hh:Below w.heap.size w w1:=hal.trans (hb.mono hal.size)
      have qTN:=(zai.new x0 x1 x2 (.int .i8 Y) (.int .i32 m1) (.int .i64 s1) (.int .i8 z1) (.int .i32 m2) (.int .i64 s2) (.int .i8 z2) (.int .i8 lo) (.int .i8 hi) K S P O Z WA BA nW cW nB cB 44) w
      try simp only [World.size_alloc] at qTN
      have TN:=hid (qTN.below (by first | (simp;done) | (simp;omega)) hb)
      have yTN:w.heap.size < w1.heap.size:=by have:=hb.size;simp at this;omega
      clear qTN
      have HBW:Hid (Below w.heap.size w w1):=hid hh
      rw [H1.out]
      have n14:=TN.out.at 14 _ rfl
      have n15:=TN.out.at 15 _ rfl
      have n16:=TN.out.at 16 _ rfl
      clear hb hh hal)
   | (go_at_call 74
      have hal:Below w1.heap.size w1 w1:=Below.refl _ _
      refine (zbp _ _ _ _).mono ?_
      rintro e w2 ⟨rfl,hb⟩
      have hh:Below w1.heap.size w1 w2:=hal.trans (hb.mono hal.size)
      replace TN:=hid (TN.out.below yTN hh)
      replace yTN:=Nat.lt_of_lt_of_le yTN hh.size
      replace HBW:=hid (HBW.out.trans (hh.mono HBW.out.size))
      clear n14 n15 n16
      rw [H2.out]
      have n14:=TN.out.at 14 _ rfl
      have n15:=TN.out.at 15 _ rfl
      have n16:=TN.out.at 16 _ rfl
      clear hb hh hal))
  go_ret
  exact⟨rfl,HBW.out⟩
end CJoin
end
section
namespace CAct
open Plain CSat CFix CShape CTensor CConv
def NBd (Z Y m1 z1 m2 z2 lo hi:Int):Prop:=(-128≤Z∧Z≤127)∧(-128≤Y∧Y≤127)∧(-2147483648≤m1∧m1≤2147483647)∧(-128≤z1∧z1≤127)∧(-2147483648≤m2∧m2≤2147483647)∧(-128≤z2∧z2≤127)∧(-128≤lo∧lo≤127)∧(-128≤hi∧hi≤127)
theorem heldZ_bd (a m s z lo hi:Int) (hl1 : -128≤lo) (hl2:lo≤127) (hh1 : -128≤hi) (hh2:hi≤127) : -128≤heldZ a m s z lo hi∧heldZ a m s z lo hi≤127:=by
 unfold heldZ zcd;split <;> (try split) <;> (try split) <;> omega
theorem aone_to (x:Int) (hx1 : -128≤x) (hx2:x≤127) (x0 x1 x2:Value) (K S P O Z Y:Int) (WA BA:Option Addr) (nW cW nB cB:Nat) (m1 s1 z1 m2 s2 z2 lo hi:Int) (hnb:NBd Z Y m1 z1 m2 z2 lo hi) (R:Int) (hR:heldZ (x - Z) m1 s1 z1 lo hi=R) (w:World) :
  Calls Tryz.prog 90 #[.int .i8 x,.agg #[x0,x1,x2,.int .i64 K,.int .i64 S,.int .i64 P,.int .i64 O,.int .i8 Z,.int .i8 Y,.slice WA nW cW,.slice BA nB cB,.int .i32 m1,.int .i64 s1,.int .i8 z1,.int .i32 m2,.int .i64 s2,.int .i8 z2,.int .i8 lo,.int .i8 hi]] w fun e w'=>e=.returned (.int .i8 R)∧Below w.heap.size w w':=by
 obtain⟨⟨hZ1,hZ2⟩, -,⟨hm3,hm1⟩,⟨hz1,hz2⟩, -, -,⟨hl1,hl2⟩,⟨hh1,hh2⟩⟩:=hnb
 have e1:IntKind.i32.wrap x=x:=IntWalk.i32_in _ (by omega)
 have e2:IntKind.i32.wrap Z=Z:=IntWalk.i32_in _ (by omega)
 have e3:IntKind.i32.wrap (x - Z)=x - Z:=IntWalk.i32_in _ (by omega)
 have hal:Below w.heap.size w (w.alloc (.cells #[x0,x1,x2,.int .i64 K,.int .i64 S,.int .i64 P,.int .i64 O,.int .i8 Z,.int .i8 Y,.slice WA nW cW,.slice BA nB cB,.int .i32 m1,.int .i64 s1,.int .i8 z1,.int .i32 m2,.int .i64 s2,.int .i8 z2,.int .i8 lo,.int .i8 hi] 44)):=(Below.refl _ _).alloc (le_refl _) _
 have HAL:=hid hal
 have HR:=hid hR
 have TN:=zai.new x0 x1 x2 (.int .i8 Y) (.int .i32 m1) (.int .i64 s1) (.int .i8 z1) (.int .i32 m2) (.int .i64 s2) (.int .i8 z2) (.int .i8 lo) (.int .i8 hi) K S P O Z WA BA nW cW nB cB 44 w
 clear hal hR
 go_enter Tryz.func90,Tryz.ntmps90
 have n7:=TN.at 7 _ rfl
 have n11:=TN.at 11 _ rfl
 have n12:=TN.at 12 _ rfl
 have n13:=TN.at 13 _ rfl
 have n17:=TN.at 17 _ rfl
 have n18:=TN.at 18 _ rfl
 clear TN
 go_wp2_with (go_at_call 119;(refine (held _ _ _ _ _ _ (by omega) (by omega) hm3 hm1 hz1 hz2 hl1 hl2 hh1 hh2 _).mono ?_);rintro e w1 ⟨rfl,hb⟩)
 go_ret
 exact⟨congrArg (fun z=>Ending.returned (.int .i8 z)) HR.out,HAL.out.trans (hb.mono HAL.out.size)⟩
theorem zbp (m s z:Int) (w:World):Calls Tryz.prog 74 #[.agg #[.int .i32 m,.int .i64 s,.int .i8 z]] w fun e w'=>e=.returned (.bool (za0 m s))∧Below w.heap.size w w':=by
 cases h:za0 m s
 ·exact isRight_no m s z h w
 ·exact zce m s z h w
end CAct
end
section
namespace CTensor
open Go Go.ChangeShapes Go.WideShapes Go.ChangeAt Go.RowKit
open Plain CSat CShape
theorem flat_tens {H W C m:Int} {n:Nat} {b:Bool} (hm:zay H W C=m) (hb:tensB H W C n=b):tensB 1 1 m n=b:=by
 cases hr:zad H W C
 ·rw [elemsZ_no hr] at hm
  subst hm hb
  have h0:zad 1 1 0=false:=by decide
  simp [tensB,hr,h0]
 ·rw [zaw hr] at hm
  have hs:=hr
  simp only [zad,decide_eq_true_eq] at hs
  obtain⟨h1,h2,h3,h4,h5,h6,h7⟩:=hs
  have:=prod_bd h1 h2 h3 h4 h5 h6
  have hs1:zad 1 1 m=true:=by simp [zad];omega
  rw [← hb]
  simp only [tensB,hr,hs1,Bool.true_and]
  rw [hm];simp
theorem flat_yes (H W C:Int) (A:Option Addr) (zs:List Int) (n c:Nat) (hn:zs.length=n) (hl:n≤1000000) (ht:tensB H W C n=true) {B:Nat} (w:World) (hB:B≤w.heap.size) (hr:Kit.Rd w B A (zs.map (.int .i8))) :
  Calls Tryz.prog 49 #[.agg #[.int .i64 H,.int .i64 W,.int .i64 C,.slice A n c]] w (Made w 1 1 n n zs (.int .i64 0)):=by
 have hm:zay H W C=(n:Int):=by
  simp only [tensB,Bool.and_eq_true,decide_eq_true_eq] at ht
  rw [zaw ht.1];exact ht.2.symm
 have HN:=hid hn
 have HR:=hid hr
 have HT:=hid (flat_tens hm ht)
 have HM:=hid hm
 clear hn hr ht hm
 go_enter Tryz.func49,Tryz.ntmps49
 go_wp2_with fail
 have hbox:BoxAt w.heap.size H W C A n c ((w.alloc (.cells #[.int .i64 H,.int .i64 W,.int .i64 C,.slice A n c] 27)).alloc (.cells #[.int .i64 0,.int .i64 0,.int .i64 0,.slice none 0 0] 27)).drew :=
  (BoxAt.new H W C A n c 27 w).below (lt_succ_self _) (((Below.refl _ _).alloc (by simp) _))
 have HFR:Hid (zbm (w.heap.size+1) ((w.alloc (.cells #[.int .i64 H,.int .i64 W,.int .i64 C,.slice A n c] 27)).alloc (.cells #[.int .i64 0,.int .i64 0,.int .i64 0,.slice none 0 0] 27)).drew):=hid (zbm.new _ _ _ (by simp))
 have HB:Hid (Below w.heap.size w ((w.alloc (.cells #[.int .i64 H,.int .i64 W,.int .i64 C,.slice A n c] 27)).alloc (.cells #[.int .i64 0,.int .i64 0,.int .i64 0,.slice none 0 0] 27)).drew):=hid (((Below.refl _ _).alloc (le_refl _) _).alloc (by simp) _).drew
 have hz:w.heap.size+2≤((w.alloc (.cells #[.int .i64 H,.int .i64 W,.int .i64 C,.slice A n c] 27)).alloc (.cells #[.int .i64 0,.int .i64 0,.int .i64 0,.slice none 0 0] 27)).drew.heap.size:=by simp
 refine wp_region_held_drew (S:=BoxAt w.heap.size H W C A n c) (by kernel_rfl) hbox (fun hHeld=>?_)
 clear hbox
 generalize ((w.alloc (.cells #[.int .i64 H,.int .i64 W,.int .i64 C,.slice A n c] 27)).alloc (.cells #[.int .i64 0,.int .i64 0,.int .i64 0,.slice none 0 0] 27)).drew=W1 at HFR HB hz hHeld ⊢
 refine Tk.y 0 (v:=?_) rfl ?_ ?_
 rotate_left
 ·intro wS hSw
  obtain⟨s1,s2,s3,s4⟩:=hSw
  first | (go_simp;done) | (go_simp;with_reducible rfl)
 try simp only [Tk.put]
 refine Tk.y 1 (v:=?_) rfl ?_ ?_
 rotate_left
 ·intro wS hSw
  obtain⟨s1,s2,s3,s4⟩:=hSw
  first | (go_simp;done) | (go_simp;with_reducible rfl)
 try simp only [Tk.put]
 refine Tk.y 4 (v:=?_) rfl ?_ ?_
 rotate_left
 ·intro wS hSw
  obtain⟨s1,s2,s3,s4⟩:=hSw
  first | (go_simp;done) | (go_simp;with_reducible rfl)
 try simp only [Tk.put]
 refine Tk.y 5 (v:=?_) rfl ?_ ?_
 rotate_left
 ·intro wS hSw
  obtain⟨s1,s2,s3,s4⟩:=hSw
  first | (go_simp;done) | (go_simp;with_reducible rfl)
 try simp only [Tk.put]
 refine Tk.s 2 rfl (fun K hK=>?_)
 go_simp
 go_at_call 25
 refine (zbk H W C (n:Int) HM.out _).mono ?_
 rintro e w1 ⟨rfl,hb⟩
 have hS1:=hHeld.below (B':=_) (by omega) hb
 replace HFR:=hid (HFR.out.below (B':=_) (by omega) hb)
 replace HB:=hid (HB.out.trans (hb.mono (by omega)))
 replace hz:=Nat.le_trans hz hb.size
 clear hHeld
 clear hb
 dsimp only
 refine hK.out _ _ ?_ (fun hHeld=>?_)
 ·exact hS1
 clear hK K
 try simp only [Tk.put]
 refine Tk.x 3 rfl ?_
 try simp only [Tk.put]
 refine Tk.s 6 rfl (fun K hK=>?_)
 go_simp
 go_at_call 95
 refine (of_yes 1 1 n A zs n c HN.out hl HT.out (B:=B) _ (by omega) (HR.out.below (HB.out.mono hB))).mono ?_
 rintro e w2 ⟨v2,rfl,ho2,hb⟩
 obtain⟨A2,c2,rfl,_,_,_⟩:=Kit.zam ho2
 have HO:=hid (Kit.zah ho2 (show w.heap.size+2≤w1.heap.size by omega))
 have hS1:=hHeld.below (B':=_) (by omega) hb
 replace HFR:=hid (HFR.out.below (B':=_) (by omega) hb)
 replace HB:=hid (HB.out.trans (hb.mono (by omega)))
 replace hz:=Nat.le_trans hz hb.size
 clear hHeld
 clear hb ho2
 obtain⟨⟨z0,z1,z2,z3⟩,z4,z5,z6,z7⟩:=HFR.out
 dsimp only
 refine hK.out _ _ ?_ (fun hHeld=>?_)
 ·exact hS1
 clear hK K
 try simp only [Tk.put]
 refine Tk.x 7 rfl ?_
 try simp only [Tk.put]
 refine Tk.x 8 rfl ?_
 try simp only [Tk.put]
 refine Tk.s 9 rfl (fun K hK=>?_)
 go_simp
 refine hK.out _ _ ?_ (fun hHeld=>?_)
 ·exact hHeld.stores (by omega) _ _ _ _
 clear hK K
 try simp only [Tk.put]
 refine Tk.x 10 rfl ?_
 try simp only [Tk.put]
 refine wpAnyH_done (by kernel_rfl) ?_ _
 go_wp2_with fail
 refine bodyPost_ret (Kit.zaa rfl _ _ (w.heap.size+1) 0 [.int .i64 1,.int .i64 1,.int .i64 n,.slice A2 n c2] _ rfl (zan (by go_cell) (by go_cell) (by go_cell) (by go_cell)) Tryz.underlying27 rfl (by kernel_rfl)) rfl ?_
 refine⟨_,rfl,Kit.zah (zat (zat (zat (zat HO.out _ _ ?_) _ _ ?_) _ _ ?_) _ _ ?_) ?_,?_⟩
 any_goals (first | omega | (simp;done) | (simp;omega))
 exact ((((HB.out.setCell (p:=⟨w.heap.size+1,0,none⟩) (by simp) _).setCell (p:=⟨w.heap.size+1,1,none⟩) (by simp) _).setCell (p:=⟨w.heap.size+1,2,none⟩) (by simp) _).setCell (p:=⟨w.heap.size+1,3,none⟩) (by simp) _)
end CTensor
end
end Go.Proofs.YtahekhpeomcfjaaGreatDoor
