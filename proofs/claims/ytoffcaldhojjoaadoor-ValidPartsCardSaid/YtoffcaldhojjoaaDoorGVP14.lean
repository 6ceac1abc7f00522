/- -/
import Derived.Test.YtoffcaldhojjoaaDoorGVP8
import Derived.Test.YtoffcaldhojjoaaDoorGVP10
import Derived.Test.YtoffcaldhojjoaaDoorGVP11
import Derived.Test.YtoffcaldhojjoaaDoorGVP12
import Derived.Test.YtoffcaldhojjoaaDoorGVP13
open Go.Lib (hid)
open Nat (le_refl lt_of_succ_lt lt_succ_self)
set_option linter.unusedVariables false
set_option linter.unusedSimpArgs false
set_option maxRecDepth 100000
set_option maxHeartbeats 16000000
namespace Go.Proofs.YtoffcaldhojjoaaDoor
namespace CConv
end CConv
namespace CFix
end CFix
namespace CGraph
end CGraph
namespace CJoin
end CJoin
namespace CKind
end CKind
namespace CSat
end CSat
namespace CShape
end CShape
namespace CSpan
end CSpan
namespace CTensor
end CTensor
open Go Go.ChangeShapes Go.WideShapes Go.ChangeAt Go.RowKit Go.Deep
section
namespace CConv
open Go Go.ChangeShapes Go.WideShapes Go.ChangeAt Go.RowKit
open Plain CSat CShape CTensor
def I32v (zs:List Int):List Value:=zs.map (.int .i32)
def ShapeAt (B:Nat) (H W C:Int) (wd:World):Prop :=
 wd.cell? ⟨B,0,none⟩=some (.int .i64 H)∧wd.cell? ⟨B,1,none⟩=some (.int .i64 W)∧wd.cell? ⟨B,2,none⟩=some (.int .i64 C)
theorem ShapeAt.below {B B':Nat} {H W C:Int} {w w':World} (h:ShapeAt B H W C w) (hB:B < B') (hb:Below B' w w'):ShapeAt B H W C w' :=
 ⟨(hb.cell (p:=⟨B,0,none⟩) hB).trans h.1,(hb.cell (p:=⟨B,1,none⟩) hB).trans h.2.1,(hb.cell (p:=⟨B,2,none⟩) hB).trans h.2.2⟩
theorem zas (H W C:Int) (T:TypeId) (w:World):ShapeAt w.heap.size H W C (w.alloc (.cells #[.int .i64 H,.int .i64 W,.int .i64 C] T)):=⟨Kit.zac _ _ _ _,Kit.zac _ _ _ _,Kit.zac _ _ _ _⟩
end CConv
end
section
namespace CKind
open Plain CSat CFix CShape CTensor CConv
def zae (w:World):Prop:=∀ n:Nat,n < 10→w.cell? ⟨0,n,none⟩=some (.string (kname n))
theorem zae.size {w:World} (h:zae w):0 < w.heap.size:=by
 have h0:=h 0 (by decide)
 unfold World.cell? at h0
 rcases Nat.lt_or_ge 0 w.heap.size with hlt | hge
 ·exact hlt
 ·rw [show w.heap[(⟨0,0,none⟩:Addr).block]?=none from Array.getElem?_eq_none hge] at h0
  cases h0
theorem zae.below {w w':World} {n:Nat} (h:zae w) (hb:Below n w w') (hn:0 < n):zae w':=fun j hj=>(hb.cell (p:=⟨0,j,none⟩) hn).trans (h j hj)
theorem zae.grown {w w':World} (h:zae w) (hb:Below w.heap.size w w'):zae w':=h.below hb h.size
theorem name_to (k:Int) (w:World) (hT:zae w):Calls Tryd.prog 83 #[.int .i64 k] w fun e w'=>e=.returned (.string (kname k))∧w=w':=by
 by_cases h:k < 0∨9 < k
 ·have HK:=hid (kname_no (k:=k) (by omega))
  rcases h with h | h
  ·go_enter Tryd.func83,Tryd.ntmps83
   go_wp2_with fail
   go_ret
   exact⟨by rw [HK.out];rfl,rfl⟩
  ·have h2:¬ k < 0:=by omega
   have h3:(10:Int)≤k:=by omega
   go_enter Tryd.func83,Tryd.ntmps83
   go_wp2_with fail
   go_ret
   exact⟨by rw [HK.out];rfl,rfl⟩
 ·obtain⟨n,rfl⟩:∃ n:Nat,k=(n:Int):=⟨k.toNat,by omega⟩
  have h9:n < 10:=by omega
  have hc:=hT n h9
  obtain⟨s,hs⟩:∃ s,kname (n:Int)=s:=⟨_,rfl⟩
  rw [hs] at hc ⊢
  have h0:¬ (n:Int) < 0:=by omega
  have h10:¬ (10:Int)≤(n:Int):=by omega
  have h11:(n:Int) < 10:=by omega
  clear hs hT h
  go_enter Tryd.func83,Tryd.ntmps83
  go_wp2_with fail
  go_ret
  exact⟨rfl,rfl⟩
def knownB (k:Int):Bool:=decide (1≤k∧k≤9)
theorem kname_ne (k:Int):(kname k).toList.isEmpty = !knownB k:=by
 rw [ByteArray.toList_eq]
 by_cases h:k < 1∨9 < k
 ·rw [kname_no h,show knownB k=false from decide_eq_false (by omega)];decide
 ·have:k=1∨k=2∨k=3∨k=4∨k=5∨k=6∨k=7∨k=8∨k=9:=by omega
  rcases this with rfl | rfl | rfl | rfl | rfl | rfl | rfl | rfl | rfl <;> decide
theorem known_to (k:Int) (w:World) (hT:zae w):Calls Tryd.prog 67 #[.int .i64 k] w fun e w'=>e=.returned (.bool (knownB k))∧w=w':=by
 have HN:=hid (name_to k w hT)
 have hne:=kname_ne k
 clear hT
 obtain⟨s,hs⟩:∃ s,kname k=s:=⟨_,rfl⟩
 rw [hs] at HN hne
 clear hs
 cases hb:knownB k
 all_goals
  rw [hb] at hne
  simp only [Bool.not_false,Bool.not_true] at hne
  clear hb
  go_enter Tryd.func67,Tryd.ntmps67
  go_wp2_with (go_at_call 83;(with_reducible refine HN.out.mono ?_);rintro e w1 ⟨rfl,rfl⟩)
  go_ret
  exact⟨rfl,rfl⟩
theorem sums_to (k:Int) (w:World):Calls Tryd.prog 85 #[.int .i64 k] w fun e w'=>e=.returned (.bool (sumsB k))∧w=w':=by
 go_enter Tryd.func85,Tryd.ntmps85
 go_wp2_with fail
 all_goals go_ret
 all_goals exact⟨by simp_all [sumsB],rfl⟩
theorem scaled_to (k:Int) (w:World):Calls Tryd.prog 70 #[.int .i64 k] w fun e w'=>e=.returned (.bool (za9 k))∧w=w':=by
 have HS:=hid (sums_to k)
 obtain⟨b,hb⟩:∃ b,sumsB k=b:=⟨_,rfl⟩
 have HZ:Hid (za9 k=(b || k == 6 || k == 7)):=hid (by rw [← hb];rfl)
 rw [hb] at HS
 clear hb
 cases b
 all_goals
  go_enter Tryd.func70,Tryd.ntmps70
  go_wp2_with (go_at_call 85;(with_reducible refine (HS.out _).mono ?_);rintro e w1 ⟨rfl,rfl⟩)
  all_goals go_ret
  all_goals exact⟨by rw [HZ.out];simp_all,rfl⟩
end CKind
end
section
namespace CKind
open Plain CSat CShape CTensor CConv
theorem own_to (x:Nd) (h:1≤x.kd∧x.kd≤9) (w:World) :
  Calls Tryd.prog 69 #[.agg x.val] w fun e w'=>e=.returned (.agg (x.ownK x.kd).val)∧Below w.heap.size w w':=by
 have:x.kd=1∨x.kd=2∨x.kd=3∨x.kd=4∨x.kd=5∨x.kd=6∨x.kd=7∨x.kd=8∨x.kd=9:=by omega
 rcases this with h | h | h | h | h | h | h | h | h
 ·rw [h];exact own_1 x h w
 ·rw [h];exact own_2 x h w
 ·rw [h];exact own_3 x h w
 ·rw [h];exact own_4 x h w
 ·rw [h];exact own_5 x h w
 ·rw [h];exact own_6 x h w
 ·rw [h];exact own_7 x h w
 ·rw [h];exact own_8 x h w
 ·rw [h];exact own_9 x h w
end CKind
end
section
namespace CGuard
open Plain CSat CFix CShape CTensor CConv CSpan
def lsR (F:Nat→Int):Nat→Int
 | 0=>0
 | k+1=>if k=0 then F 0 else min (lsR F k) (F k)
def grR (F:Nat→Int):Nat→Int
 | 0=>0
 | k+1=>if k=0 then F 0 else max (grR F k) (F k)
theorem lsR_bd {F:Nat→Int} {a b:Int} (h:∀ k,a≤F k∧F k≤b):∀ n,0 < n→a≤lsR F n∧lsR F n≤b
 | 0,h0=>by omega
 | n+1,_=>by
   unfold lsR
   by_cases hn:n=0
   ·rw [if_pos hn];exact h 0
   ·rw [if_neg hn];have:=lsR_bd h n (by omega);have:=h n;omega
theorem grR_bd {F:Nat→Int} {a b:Int} (h:∀ k,a≤F k∧F k≤b):∀ n,0 < n→a≤grR F n∧grR F n≤b
 | 0,h0=>by omega
 | n+1,_=>by
   unfold grR
   by_cases hn:n=0
   ·rw [if_pos hn];exact h 0
   ·rw [if_neg hn];have:=grR_bd h n (by omega);have:=h n;omega
def fitB (X Y:Int):Bool:=decide (-2147483648≤X) && decide (Y≤2147483647)
def HeadGAt (B:Nat) (WA BA:Option Addr) (nW cW nB cB:Nat) (D:Int) (wd:World):Prop :=
 wd.cell? ⟨B,0,none⟩=some (.slice WA nW cW)∧wd.cell? ⟨B,1,none⟩=some (.slice BA nB cB)∧wd.cell? ⟨B,2,none⟩=some (.int .i32 D)
theorem headGNew (WA BA:Option Addr) (nW cW nB cB:Nat) (D:Int) (T:TypeId) (w:World):HeadGAt w.heap.size WA BA nW cW nB cB D (w.alloc (.cells #[.slice WA nW cW,.slice BA nB cB,.int .i32 D] T)):=⟨Kit.zac _ _ _ _,Kit.zac _ _ _ _,Kit.zac _ _ _ _⟩
def RchAt (B:Nat) (l h:Int) (wd:World):Prop:=wd.cell? ⟨B,0,none⟩=some (.int .i8 l)∧wd.cell? ⟨B,1,none⟩=some (.int .i8 h)
theorem rchNew (l h:Int) (T:TypeId) (w:World):RchAt w.heap.size l h (w.alloc (.cells #[.int .i8 l,.int .i8 h] T)):=⟨Kit.zac _ _ _ _,Kit.zac _ _ _ _⟩
theorem RchAt.below {B B':Nat} {l h:Int} {w w':World} (q:RchAt B l h w) (hB:B < B') (hb:Below B' w w'):RchAt B l h w' :=
 ⟨(hb.cell (p:=⟨B,0,none⟩) hB).trans q.1,(hb.cell (p:=⟨B,1,none⟩) hB).trans q.2⟩
def lsW (ws bs:List Int) (nW nB:Nat) (l h z:Int) (g:Bool):Int:=lsR (rowP ws bs l h z g (nW / nB)) nB
def grW (ws bs:List Int) (nW nB:Nat) (l h z:Int) (g:Bool):Int:=grR (rowQ ws bs l h z g (nW / nB)) nB
def headZ (ws bs:List Int) (nW nB:Nat) (l h:Int):Int :=
 if 1≤nB∧nW % nB=0 then (if fitB (lsW ws bs nW nB l h 0 false) (grW ws bs nW nB l h 0 false)=true then 0 else 10) else 9
theorem each_of_shared {nW nB:Nat} (h:1≤nB∧nW % nB=0):nW / nB * nB=nW:=Nat.div_mul_cancel (Nat.dvd_of_mod_eq_zero h.2)
theorem same_b {w w':World} (h:w=w'):Below w.heap.size w w':=by subst h;exact Below.refl _ _
end CGuard
end
section
namespace CAct
open Plain CSat CFix CShape CTensor CConv
def NBd (Z Y m1 z1 m2 z2 lo hi:Int):Prop:=(-128≤Z∧Z≤127)∧(-128≤Y∧Y≤127)∧(-2147483648≤m1∧m1≤2147483647)∧(-128≤z1∧z1≤127)∧(-2147483648≤m2∧m2≤2147483647)∧(-128≤z2∧z2≤127)∧(-128≤lo∧lo≤127)∧(-128≤hi∧hi≤127)
theorem aone_to (x:Int) (hx1 : -128≤x) (hx2:x≤127) (x0 x1 x2:Value) (K S P O Z Y:Int) (WA BA:Option Addr) (nW cW nB cB:Nat) (m1 s1 z1 m2 s2 z2 lo hi:Int) (hnb:NBd Z Y m1 z1 m2 z2 lo hi) (R:Int) (hR:heldZ (x - Z) m1 s1 z1 lo hi=R) (w:World) :
  Calls Tryd.prog 79 #[.int .i8 x,.agg #[x0,x1,x2,.int .i64 K,.int .i64 S,.int .i64 P,.int .i64 O,.int .i8 Z,.int .i8 Y,.slice WA nW cW,.slice BA nB cB,.int .i32 m1,.int .i64 s1,.int .i8 z1,.int .i32 m2,.int .i64 s2,.int .i8 z2,.int .i8 lo,.int .i8 hi]] w fun e w'=>e=.returned (.int .i8 R)∧Below w.heap.size w w':=by
 obtain⟨⟨hZ1,hZ2⟩, -,⟨hm3,hm1⟩,⟨hz1,hz2⟩, -, -,⟨hl1,hl2⟩,⟨hh1,hh2⟩⟩:=hnb
 have e1:IntKind.i32.wrap x=x:=IntWalk.i32_in _ (by omega)
 have e2:IntKind.i32.wrap Z=Z:=IntWalk.i32_in _ (by omega)
 have e3:IntKind.i32.wrap (x - Z)=x - Z:=IntWalk.i32_in _ (by omega)
 have hal:Below w.heap.size w (w.alloc (.cells #[x0,x1,x2,.int .i64 K,.int .i64 S,.int .i64 P,.int .i64 O,.int .i8 Z,.int .i8 Y,.slice WA nW cW,.slice BA nB cB,.int .i32 m1,.int .i64 s1,.int .i8 z1,.int .i32 m2,.int .i64 s2,.int .i8 z2,.int .i8 lo,.int .i8 hi] 67)):=(Below.refl _ _).alloc (le_refl _) _
 have HAL:=hid hal
 have HR:=hid hR
 have TN:=zao.new x0 x1 x2 (.int .i8 Y) (.int .i32 m1) (.int .i64 s1) (.int .i8 z1) (.int .i32 m2) (.int .i64 s2) (.int .i8 z2) (.int .i8 lo) (.int .i8 hi) K S P O Z WA BA nW cW nB cB 67 w
 clear hal hR
 go_enter Tryd.func79,Tryd.ntmps79
 have n7:=TN.at 7 _ rfl
 have n11:=TN.at 11 _ rfl
 have n12:=TN.at 12 _ rfl
 have n13:=TN.at 13 _ rfl
 have n17:=TN.at 17 _ rfl
 have n18:=TN.at 18 _ rfl
 clear TN
 go_wp2_with (go_at_call 93;(refine (held _ _ _ _ _ _ (by omega) (by omega) hm3 hm1 hz1 hz2 hl1 hl2 hh1 hh2 _).mono ?_);rintro e w1 ⟨rfl,hb⟩)
 go_ret
 exact⟨congrArg (fun z=>Ending.returned (.int .i8 z)) HR.out,HAL.out.trans (hb.mono HAL.out.size)⟩
end CAct
end
section
namespace CGuard
open Plain CSat CFix CShape CTensor CConv CSpan CKind CGraph CJoin
structure NdL (w:World) (B:Nat) (x:Nd) (ws bs:List Int):Prop where
 ok:NdOk w B x
 lw:ws.length=x.nW
 lb:bs.length=x.nB
 cw:x.nW≤x.cW∧x.nB≤x.cB
 iw:I8b ws
 ib:∀ q, -2147483648≤bs.getD q 0∧bs.getD q 0≤2147483647
 rw:Kit.Rd w B x.WA (I8s ws)
 rb:Kit.Rd w B x.BA (I32v bs)
def FreshR (B:Nat) (wd:World):Prop :=
 (wd.cell? ⟨B,0,none⟩=some (.int .i8 0)∧wd.cell? ⟨B,1,none⟩=some (.int .i8 0))∧wd.frozen? ⟨B,0,none⟩=false∧wd.frozen? ⟨B,1,none⟩=false
theorem FreshR.new (T:TypeId) (w:World):FreshR w.heap.size (w.alloc (.cells #[.int .i8 0,.int .i8 0] T)) :=
 ⟨⟨Kit.zac _ _ _ _,Kit.zac _ _ _ _⟩,World.frozen?_alloc_at _ _ _ _ rfl,World.frozen?_alloc_at _ _ _ _ rfl⟩
theorem FreshR.below {B B':Nat} {w w':World} (h:FreshR B w) (hB:B < B') (hb:Below B' w w'):FreshR B w':=by
 obtain⟨⟨h1,h2⟩,h5,h6⟩:=h
 exact⟨⟨(hb.cell (p:=⟨B,0,none⟩) hB).trans h1,(hb.cell (p:=⟨B,1,none⟩) hB).trans h2⟩,(hb.frozen (p:=⟨B,0,none⟩) hB).trans h5,(hb.frozen (p:=⟨B,1,none⟩) hB).trans h6⟩
def zaz (g:Nat) (x:Nd) (l h l2 h2:Int) (wd:World):Prop:=NdAt g x wd∧RchAt (g+1) l h wd∧RchAt (g+2) l2 h2 wd∧FreshR (g+3) wd∧g+4≤wd.heap.size
theorem zaz.below {g:Nat} {x:Nd} {l h l2 h2:Int} {w w':World} (q:zaz g x l h l2 h2 w) (hb:Below w.heap.size w w'):zaz g x l h l2 h2 w':=by
 obtain⟨q1,q2,q3,q4,q5⟩:=q
 exact⟨q1.below (B:=w.heap.size) (by omega) hb,q2.below (B':=w.heap.size) (by omega) hb,q3.below (B':=w.heap.size) (by omega) hb,q4.below (B':=w.heap.size) (by omega) hb,Nat.le_trans q5 hb.size⟩
theorem nd_other {g q i:Nat} {x:Nd} {u:Value} {w:World} (h:NdAt g x w) (hq:q≠g):NdAt g x (w.setCell ⟨q,i,none⟩ u):=fun j v hj=>(World.cell?_setCell_other _ _ _ _ (fun e=>by injection e;omega)).trans (h j v hj)
theorem zbe {g q i:Nat} {l h:Int} {u:Value} {w:World} (r:RchAt g l h w) (hq:q≠g):RchAt g l h (w.setCell ⟨q,i,none⟩ u) :=
 ⟨(World.cell?_setCell_other _ _ _ _ (fun e=>by injection e;omega)).trans r.1,(World.cell?_setCell_other _ _ _ _ (fun e=>by injection e;omega)).trans r.2⟩
theorem min_iteN (a b:Int):(if b < a then b else a)=min a b:=by split <;> omega
theorem max_iteN (a b:Int):(if a < b then b else a)=max a b:=by split <;> omega
theorem nbd_of {w:World} {B:Nat} {x:Nd} (h:NdOk w B x):NBd x.Z x.Y x.m1 x.z1 x.m2 x.z2 x.lo x.hi:=⟨h.z,h.q.2.2.2.2.2.2,h.q.1,h.q.2.2.1,h.q.2.1,h.q.2.2.2.1,h.q.2.2.2.2.1,h.q.2.2.2.2.2.1⟩
end CGuard
end
end Go.Proofs.YtoffcaldhojjoaaDoor
