/- -/
import Derived.Test.YtoffcaldhojjoaaDoorGVA21
open Go.Lib (hid)
open Nat (le_refl lt_of_succ_lt lt_succ_self)
set_option linter.unusedVariables false
set_option linter.unusedSimpArgs false
set_option maxRecDepth 100000
set_option maxHeartbeats 16000000
namespace Go.Proofs.YtoffcaldhojjoaaDoor
namespace CConv
end CConv
namespace CDense
end CDense
namespace CFix
end CFix
namespace CSat
end CSat
namespace CTensor
end CTensor
open Go Go.ChangeShapes Go.WideShapes Go.ChangeAt Go.RowKit Go.Deep
section
namespace CKind
open Plain CSat CFix CShape CTensor CConv
def zan (w:World):Prop:=∀ n:Nat,n < 10→w.cell? ⟨0,n,none⟩=some (.string (kname n))
theorem zan.size {w:World} (h:zan w):0 < w.heap.size:=by
 have h0:=h 0 (by decide)
 unfold World.cell? at h0
 rcases Nat.lt_or_ge 0 w.heap.size with hlt | hge
 ·exact hlt
 ·rw [show w.heap[(⟨0,0,none⟩:Addr).block]?=none from Array.getElem?_eq_none hge] at h0
  cases h0
theorem zan.below {w w':World} {n:Nat} (h:zan w) (hb:Below n w w') (hn:0 < n):zan w':=fun j hj=>(hb.cell (p:=⟨0,j,none⟩) hn).trans (h j hj)
theorem zan.grown {w w':World} (h:zan w) (hb:Below w.heap.size w w'):zan w':=h.below hb h.size
theorem name_to (k:Int) (w:World) (hT:zan w):Calls Tryd.prog 83 #[.int .i64 k] w fun e w'=>e=.returned (.string (kname k))∧w=w':=by
 by_cases h:k < 0∨9 < k
 ·have HK:=hid (kname_no (k:=k) (by omega))
  rcases h with h | h
  ·go_enter Tryd.func83,Tryd.ntmps83
   go_wp2_with fail
   go_ret
   exact⟨by rw [HK.out];rfl,rfl⟩
  ·have h2:¬ k < 0:=by omega
   have h3:(10:Int)≤k:=by omega
   go_enter Tryd.func83,Tryd.ntmps83
   go_wp2_with fail
   go_ret
   exact⟨by rw [HK.out];rfl,rfl⟩
 ·obtain⟨n,rfl⟩:∃ n:Nat,k=(n:Int):=⟨k.toNat,by omega⟩
  have h9:n < 10:=by omega
  have hc:=hT n h9
  obtain⟨s,hs⟩:∃ s,kname (n:Int)=s:=⟨_,rfl⟩
  rw [hs] at hc ⊢
  have h0:¬ (n:Int) < 0:=by omega
  have h10:¬ (10:Int)≤(n:Int):=by omega
  have h11:(n:Int) < 10:=by omega
  clear hs hT h
  go_enter Tryd.func83,Tryd.ntmps83
  go_wp2_with fail
  go_ret
  exact⟨rfl,rfl⟩
def knownB (k:Int):Bool:=decide (1≤k∧k≤9)
theorem kname_ne (k:Int):(kname k).toList.isEmpty = !knownB k:=by
 rw [ByteArray.toList_eq]
 by_cases h:k < 1∨9 < k
 ·rw [kname_no h,show knownB k=false from decide_eq_false (by omega)];decide
 ·have:k=1∨k=2∨k=3∨k=4∨k=5∨k=6∨k=7∨k=8∨k=9:=by omega
  rcases this with rfl | rfl | rfl | rfl | rfl | rfl | rfl | rfl | rfl <;> decide
theorem known_to (k:Int) (w:World) (hT:zan w):Calls Tryd.prog 67 #[.int .i64 k] w fun e w'=>e=.returned (.bool (knownB k))∧w=w':=by
 have HN:=hid (name_to k w hT)
 have hne:=kname_ne k
 clear hT
 obtain⟨s,hs⟩:∃ s,kname k=s:=⟨_,rfl⟩
 rw [hs] at HN hne
 clear hs
 cases hb:knownB k
 all_goals
  rw [hb] at hne
  simp only [Bool.not_false,Bool.not_true] at hne
  clear hb
  go_enter Tryd.func67,Tryd.ntmps67
  go_wp2_with (go_at_call 83;(with_reducible refine HN.out.mono ?_);rintro e w1 ⟨rfl,rfl⟩)
  go_ret
  exact⟨rfl,rfl⟩
theorem sums_to (k:Int) (w:World):Calls Tryd.prog 85 #[.int .i64 k] w fun e w'=>e=.returned (.bool (sumsB k))∧w=w':=by
 go_enter Tryd.func85,Tryd.ntmps85
 go_wp2_with fail
 all_goals go_ret
 all_goals exact⟨by simp_all [sumsB],rfl⟩
theorem scaled_to (k:Int) (w:World):Calls Tryd.prog 70 #[.int .i64 k] w fun e w'=>e=.returned (.bool (zad k))∧w=w':=by
 have HS:=hid (sums_to k)
 obtain⟨b,hb⟩:∃ b,sumsB k=b:=⟨_,rfl⟩
 have HZ:Hid (zad k=(b || k == 6 || k == 7)):=hid (by rw [← hb];rfl)
 rw [hb] at HS
 clear hb
 cases b
 all_goals
  go_enter Tryd.func70,Tryd.ntmps70
  go_wp2_with (go_at_call 85;(with_reducible refine (HS.out _).mono ?_);rintro e w1 ⟨rfl,rfl⟩)
  all_goals go_ret
  all_goals exact⟨by rw [HZ.out];simp_all,rfl⟩
end CKind
end
section
namespace CKind
open Plain CSat CShape CTensor CConv CDense CDepth
theorem valid_to (H W C e u0 u1 u2:Int) (b:Bool) (hb:zae H W C=b) (he:(if b=true then (0:Int) else 5)=e) (hv:(if b=true then (#[.int .i64 H,.int .i64 W,.int .i64 C]:Array Value) else #[.int .i64 0,.int .i64 0,.int .i64 0])=#[.int .i64 u0,.int .i64 u1,.int .i64 u2]) (w:World) :
  Calls Tryd.prog 75 #[.agg #[.int .i64 H,.int .i64 W,.int .i64 C]] w fun r w'=>r=.returned (.tuple #[.agg #[.int .i64 u0,.int .i64 u1,.int .i64 u2],.int .i64 e])∧Below w.heap.size w w':=by
 have HR:=hid (zaw H W C b hb)
 have HB:Hid (Below w.heap.size w ((w.alloc (.cells #[.int .i64 H,.int .i64 W,.int .i64 C] 30)).alloc (.cells #[.int .i64 0,.int .i64 0,.int .i64 0] 30))):=hid (((Below.refl _ _).alloc (by first | exact le_refl _ | (simp;done) | (simp;omega) | omega) _).alloc (by first | exact le_refl _ | (simp;done) | (simp;omega) | omega) _)
 clear hb
 cases b
 all_goals
  simp only [if_true,if_false,Bool.false_eq_true] at he hv
  obtain⟨rfl,rfl,rfl⟩:=za3 hv
  subst he
  clear hv
  go_enter Tryd.func75,Tryd.ntmps75
  go_wp2_with (go_at_call 30;(with_reducible refine (HR.out _).mono ?_);rintro e1 w1 ⟨rfl,hb⟩;obtain⟨hcc,hff⟩:=Kit.bcell hb;have hz1:w.heap.size+1 < w1.heap.size:=(by have:=hb.size;simp at this;omega);(replace HB:=hid (HB.out.trans (hb.mono HB.out.size)));clear hb)
 ·refine bodyPost_ret (Kit.zaa rfl _ _ (w.heap.size+1) 0 [.int .i64 0,.int .i64 0,.int .i64 0] _ rfl (Kit.zaj (by go_cell) (by go_cell) (by go_cell)) Tryd.underlying30 rfl (by kernel_rfl)) rfl ?_
  exact⟨rfl,((HB.out.setCell (p:=⟨w.heap.size+1,0,none⟩) (Nat.le_succ _) _).setCell (p:=⟨w.heap.size+1,1,none⟩) (Nat.le_succ _) _).setCell (p:=⟨w.heap.size+1,2,none⟩) (Nat.le_succ _) _⟩
 ·refine bodyPost_ret (Kit.zaa rfl _ _ (w.heap.size+1) 0 [.int .i64 H,.int .i64 W,.int .i64 C] _ rfl (Kit.zaj (by go_cell) (by go_cell) (by go_cell)) Tryd.underlying30 rfl (by kernel_rfl)) rfl ?_
  exact⟨rfl,((HB.out.setCell (p:=⟨w.heap.size+1,0,none⟩) (Nat.le_succ _) _).setCell (p:=⟨w.heap.size+1,1,none⟩) (Nat.le_succ _) _).setCell (p:=⟨w.heap.size+1,2,none⟩) (Nat.le_succ _) _⟩
theorem shape_in {H W C:Int} (h:zae H W C=true):1≤H∧H≤16∧1≤W∧W≤16:=by
 obtain⟨a1,a2,a3,a4,_,_,_⟩:=zah h
 exact⟨a1,a2,a3,a4⟩
theorem widened_to (H W C P e u0 u1 u2:Int) (he:(if zae H W C=false then (5:Int) else if P < 0∨4 < P then 2 else if zae (H+2 * P) (W+2 * P) C=false then 5 else 0)=e) (hv:(if e≠0 then (#[.int .i64 0,.int .i64 0,.int .i64 0]:Array Value) else #[.int .i64 (H+2 * P),.int .i64 (W+2 * P),.int .i64 C])=#[.int .i64 u0,.int .i64 u1,.int .i64 u2]) (w:World) :
  Calls Tryd.prog 76 #[.agg #[.int .i64 H,.int .i64 W,.int .i64 C],.int .i64 P] w fun r w'=>r=.returned (.tuple #[.agg #[.int .i64 u0,.int .i64 u1,.int .i64 u2],.int .i64 e])∧Below w.heap.size w w':=by
 have HB:Hid (Below w.heap.size w ((w.alloc (.cells #[.int .i64 H,.int .i64 W,.int .i64 C] 30)).alloc (.cells #[.int .i64 0,.int .i64 0,.int .i64 0] 30))):=hid (((Below.refl _ _).alloc (by first | exact le_refl _ | (simp;done) | (simp;omega) | omega) _).alloc (by first | exact le_refl _ | (simp;done) | (simp;omega) | omega) _)
 cases hs:zae H W C
 ·have HR:=hid (zaw H W C false hs)
  rw [if_pos hs] at he
  subst he
  rw [if_pos (by decide)] at hv
  obtain⟨rfl,rfl,rfl⟩:=za3 hv
  clear hv hs
  go_enter Tryd.func76,Tryd.ntmps76
  go_wp2_with (go_at_call 30;(with_reducible refine (HR.out _).mono ?_);rintro e1 w1 ⟨rfl,hb⟩;obtain⟨hcc,hff⟩:=Kit.bcell hb;have hz1:w.heap.size+1 < w1.heap.size:=(by have:=hb.size;simp at this;omega);(replace HB:=hid (HB.out.trans (hb.mono HB.out.size)));clear hb)
  refine bodyPost_ret (Kit.zaa rfl _ _ (w.heap.size+1) 0 [.int .i64 0,.int .i64 0,.int .i64 0] _ rfl (Kit.zaj (by go_cell) (by go_cell) (by go_cell)) Tryd.underlying30 rfl (by kernel_rfl)) rfl ?_
  exact⟨rfl,((HB.out.setCell (p:=⟨w.heap.size+1,0,none⟩) (Nat.le_succ _) _).setCell (p:=⟨w.heap.size+1,1,none⟩) (Nat.le_succ _) _).setCell (p:=⟨w.heap.size+1,2,none⟩) (Nat.le_succ _) _⟩
 ·have HR:=hid (zaw H W C true hs)
  obtain⟨a1,a2,a3,a4⟩:=shape_in hs
  rw [if_neg (by simp [hs])] at he
  clear hs
  by_cases hp:P < 0∨4 < P
  ·rw [if_pos hp] at he
   subst he
   rw [if_pos (by decide)] at hv
   obtain⟨rfl,rfl,rfl⟩:=za3 hv
   clear hv a1 a2 a3 a4
   rcases (show P < 0∨(¬ P < 0∧4 < P) by omega) with hq | ⟨hq,hq2⟩
   all_goals
    clear hp
    go_enter Tryd.func76,Tryd.ntmps76
    go_wp2_with (go_at_call 30;(with_reducible refine (HR.out _).mono ?_);rintro e1 w1 ⟨rfl,hb⟩;obtain⟨hcc,hff⟩:=Kit.bcell hb;have hz1:w.heap.size+1 < w1.heap.size:=(by have:=hb.size;simp at this;omega);(replace HB:=hid (HB.out.trans (hb.mono HB.out.size)));clear hb)
    refine bodyPost_ret (Kit.zaa rfl _ _ (w.heap.size+1) 0 [.int .i64 0,.int .i64 0,.int .i64 0] _ rfl (Kit.zaj (by go_cell) (by go_cell) (by go_cell)) Tryd.underlying30 rfl (by kernel_rfl)) rfl ?_
    exact⟨rfl,((HB.out.setCell (p:=⟨w.heap.size+1,0,none⟩) (Nat.le_succ _) _).setCell (p:=⟨w.heap.size+1,1,none⟩) (Nat.le_succ _) _).setCell (p:=⟨w.heap.size+1,2,none⟩) (Nat.le_succ _) _⟩
  ·rw [if_neg hp] at he
   have p1:¬ P < 0:=by omega
   have p2:¬ 4 < P:=by omega
   have i1:IntKind.i64.wrap (2 * P)=2 * P:=IntWalk.i64_in _ (by omega)
   have i2:IntKind.i64.wrap (H+2 * P)=H+2 * P:=IntWalk.i64_in _ (by omega)
   have i3:IntKind.i64.wrap (W+2 * P)=W+2 * P:=IntWalk.i64_in _ (by omega)
   clear hp a1 a2 a3 a4
   have hva:(if zae (H+2 * P) (W+2 * P) C=true then (0:Int) else 5)=e:=by
    rw [← he];cases zae (H+2 * P) (W+2 * P) C <;> rfl
   have hvv:(if zae (H+2 * P) (W+2 * P) C=true then (#[.int .i64 (H+2 * P),.int .i64 (W+2 * P),.int .i64 C]:Array Value) else #[.int .i64 0,.int .i64 0,.int .i64 0])=#[.int .i64 u0,.int .i64 u1,.int .i64 u2]:=by
    rw [← hv, ← he];cases zae (H+2 * P) (W+2 * P) C <;> simp
   have HV:=hid (valid_to (H+2 * P) (W+2 * P) C e u0 u1 u2 _ rfl hva hvv)
   clear he hv hva hvv
   go_enter Tryd.func76,Tryd.ntmps76
   go_wp2_with (first
    | (go_at_call 30;(with_reducible refine (HR.out _).mono ?_);rintro e1 w1 ⟨rfl,hb⟩;obtain⟨hcc,hff⟩:=Kit.bcell hb;have hz1:w.heap.size+1 < w1.heap.size:=(by have:=hb.size;simp at this;omega);(replace HB:=hid (HB.out.trans (hb.mono HB.out.size)));clear hb)
    | (go_at_call 75;(with_reducible refine (HV.out _).mono ?_);rintro e1 w2 ⟨rfl,hb⟩;obtain⟨hcd,hfd⟩:=Kit.bcell hb;have hz2:w.heap.size+1 < w2.heap.size:=(Nat.lt_of_lt_of_le hz1 hb.size);(replace HB:=hid (HB.out.trans (hb.mono HB.out.size)));clear hb))
   refine bodyPost_ret (Kit.zaa rfl _ _ (w.heap.size+1) 0 [.int .i64 u0,.int .i64 u1,.int .i64 u2] _ rfl (Kit.zaj (by go_cell) (by go_cell) (by go_cell)) Tryd.underlying30 rfl (by kernel_rfl)) rfl ?_
   exact⟨rfl,((HB.out.setCell (p:=⟨w.heap.size+1,0,none⟩) (Nat.le_succ _) _).setCell (p:=⟨w.heap.size+1,1,none⟩) (Nat.le_succ _) _).setCell (p:=⟨w.heap.size+1,2,none⟩) (Nat.le_succ _) _⟩
end CKind
end
section
namespace CSpan
open Go Go.ChangeShapes Go.WideShapes Go.ChangeAt Go.RowKit
open Plain CSat CFix CShape CTensor CConv
def c32 (a:Int):Int:=min (max a (-2147483648)) 2147483647
theorem c32_bd (a:Int) : -2147483648≤c32 a∧c32 a≤2147483647:=by unfold c32;omega
theorem heldZ_bds (a m s z lo hi:Int) (hl1 : -128≤lo) (hl2:lo≤127) (hh1 : -128≤hi) (hh2:hi≤127) : -128≤heldZ a m s z lo hi∧heldZ a m s z lo hi≤127:=by
 unfold heldZ zbq;split <;> (try split) <;> (try split) <;> omega
theorem min_ite (a b:Int):(if b < a then b else a)=min a b:=by split <;> omega
theorem max_ite (a b:Int):(if a < b then b else a)=max a b:=by split <;> omega
theorem zcf (a b m s z lo hi:Int) (hm1 : -2147483648≤m) (hm2:m≤2147483647) (hz1 : -128≤z) (hz2:z≤127) (hl1 : -128≤lo) (hl2:lo≤127) (hh1 : -128≤hi) (hh2:hi≤127) (w:World) :
  Calls Tryd.prog 47 #[.int .i64 a,.int .i64 b,.agg #[.int .i32 m,.int .i64 s,.int .i8 z],.int .i8 lo,.int .i8 hi] w fun e w' =>
   e=.returned (.tuple #[.int .i8 (min (heldZ (c32 a) m s z lo hi) (heldZ (c32 b) m s z lo hi)),.int .i8 (max (heldZ (c32 a) m s z lo hi) (heldZ (c32 b) m s z lo hi))])∧Below w.heap.size w w':=by
 obtain⟨a1,a2⟩:=c32_bd a
 obtain⟨b1,b2⟩:=c32_bd b
 obtain⟨ma,hma⟩:∃ x,(if a < -2147483648 then -2147483648 else a)=x:=⟨_,rfl⟩
 obtain⟨mb,hmb⟩:∃ x,(if b < -2147483648 then -2147483648 else b)=x:=⟨_,rfl⟩
 have hca:(if 2147483647 < ma then 2147483647 else ma)=c32 a:=by rw [← hma,max_ite,min_ite];rfl
 have hcb:(if 2147483647 < mb then 2147483647 else mb)=c32 b:=by rw [← hmb,max_ite,min_ite];rfl
 generalize c32 a=ca at *
 generalize c32 b=cb at *
 have e1:IntKind.i32.wrap ca=ca:=IntWalk.i32_in _ (by omega)
 have e2:IntKind.i32.wrap cb=cb:=IntWalk.i32_in _ (by omega)
 obtain⟨x,hx⟩:∃ x,heldZ ca m s z lo hi=x:=⟨_,rfl⟩
 obtain⟨y,hy⟩:∃ y,heldZ cb m s z lo hi=y:=⟨_,rfl⟩
 have k1:=min_ite x y
 have k2:=max_ite x y
 have HX:=hid hx
 have HY:=hid hy
 rw [hx,hy]
 generalize min x y=mn at *
 generalize max x y=mx at *
 have c1:=fun (w:World)=>refHeldQ ca m s z lo hi a1 a2 hm1 hm2 hz1 hz2 hl1 hl2 hh1 hh2 w
 have c2:=fun (w:World)=>refHeldQ cb m s z lo hi b1 b2 hm1 hm2 hz1 hz2 hl1 hl2 hh1 hh2 w
 rw [hx] at c1
 rw [hy] at c2
 have C1:=hid c1
 have C2:=hid c2
 have hal:Below w.heap.size w (w.alloc (.cells #[.int .i32 m,.int .i64 s,.int .i8 z] 65)):=(Below.refl _ _).alloc (le_refl _) _
 have HAL:=hid hal
 clear hx hy c1 c2 hal
 go_enter Tryd.func47,Tryd.ntmps47
 go_wp2_with (first
  | (go_at_call 62;(have hchk:=HB1);clear hchk;(refine (C2.out _).mono ?_);rintro e w2 ⟨rfl,hb2⟩;(replace HB1:=hid (HB1.out.trans (hb2.mono HB1.out.size)));clear hb2)
  | (go_at_call 62;(refine (C1.out _).mono ?_);rintro e w1 ⟨rfl,hb⟩;(obtain⟨q0,q1,q2, -, -⟩:=Kit.box_3 (hb.mono (by simp)));(have HB1:=hid (HAL.out.trans (hb.mono HAL.out.size)));clear hb))
 refine bodyPost_ret (res_2 rfl _ _ _) rfl ?_
 exact⟨rfl,HB1.out⟩
end CSpan
end
end Go.Proofs.YtoffcaldhojjoaaDoor
