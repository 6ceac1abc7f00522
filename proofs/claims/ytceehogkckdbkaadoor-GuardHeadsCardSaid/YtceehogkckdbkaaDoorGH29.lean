/- -/
import Derived.Test.YtceehogkckdbkaaDoorGH24
open Go.Lib (hid)
open Nat (le_refl lt_of_succ_lt lt_succ_self)
set_option linter.unusedVariables false
set_option linter.unusedSimpArgs false
set_option maxRecDepth 100000
set_option maxHeartbeats 16000000
namespace Go.Proofs.YtceehogkckdbkaaDoor
namespace CConv
end CConv
namespace CFix
end CFix
namespace CSat
end CSat
namespace CShape
end CShape
namespace CTensor
end CTensor
open Go Go.ChangeShapes Go.WideShapes Go.ChangeAt Go.RowKit Go.Deep
section
namespace CSpan
open Plain CSat CFix CShape CTensor CConv
theorem chld_to (a m s z lo hi t:Int) (hm1 : -2147483648≤m) (hm2:m≤2147483647) (hz1 : -128≤z) (hz2:z≤127) (hl1 : -128≤lo) (hl2:lo≤127) (hh1 : -128≤hi) (hh2:hi≤127) (ht:heldZ (c32 a) m s z lo hi=t) (w:World) :
  Calls Tryd.prog 84 #[.int .i64 a,.agg #[.int .i32 m,.int .i64 s,.int .i8 z],.int .i8 lo,.int .i8 hi] w fun e w'=>e=.returned (.int .i8 t)∧Below w.heap.size w w':=by
 obtain⟨a1,a2⟩:=c32_bd a
 obtain⟨ma,hma⟩:∃ x,(if a < -2147483648 then -2147483648 else a)=x:=⟨_,rfl⟩
 have hca:(if 2147483647 < ma then 2147483647 else ma)=c32 a:=by rw [← hma,max_ite,min_ite];rfl
 generalize c32 a=ca at *
 have e1:IntKind.i32.wrap ca=ca:=IntWalk.i32_in _ (by omega)
 have c1:=fun (w:World)=>held ca m s z lo hi a1 a2 hm1 hm2 hz1 hz2 hl1 hl2 hh1 hh2 w
 rw [ht] at c1
 have C1:=hid c1
 have hal:Below w.heap.size w (w.alloc (.cells #[.int .i32 m,.int .i64 s,.int .i8 z] 27)):=(Below.refl _ _).alloc (le_refl _) _
 have HAL:=hid hal
 clear ht c1 hal
 go_enter Tryd.func84,Tryd.ntmps84
 go_wp2_with (go_at_call 55;(refine (C1.out _).mono ?_);rintro e w1 ⟨rfl,hb⟩)
 go_ret
 exact⟨rfl,HAL.out.trans (hb.mono HAL.out.size)⟩
def AftAt (g:Nat) (a b m s z:Int) (w:World):Prop :=
 (w.cell? ⟨g,0,none⟩=some (.int .i64 a)∧w.cell? ⟨g,1,none⟩=some (.int .i64 b))∧(w.cell? ⟨g+1,0,none⟩=some (.int .i32 m)∧w.cell? ⟨g+1,1,none⟩=some (.int .i64 s)∧w.cell? ⟨g+1,2,none⟩=some (.int .i8 z))
theorem AftAt.below {g:Nat} {a b m s z:Int} {w w':World} (h:AftAt g a b m s z w) {B:Nat} (hB:g+1 < B) (hb:Below B w w'):AftAt g a b m s z w':=by
 obtain⟨⟨h1,h2⟩,h3,h4,h5⟩:=h
 exact⟨⟨(hb.cell (p:=⟨g,0,none⟩) (by show g < B;omega)).trans h1,(hb.cell (p:=⟨g,1,none⟩) (by show g < B;omega)).trans h2⟩,(hb.cell (p:=⟨g+1,0,none⟩) hB).trans h3,(hb.cell (p:=⟨g+1,1,none⟩) hB).trans h4,(hb.cell (p:=⟨g+1,2,none⟩) hB).trans h5⟩
theorem AftAt.new (a b m s z:Int) (w:World):AftAt w.heap.size a b m s z ((w.alloc (.cells #[.int .i64 a,.int .i64 b] 97)).alloc (.cells #[.int .i32 m,.int .i64 s,.int .i8 z] 27)):=by
 have k0:∀ j,(w.alloc (.cells #[.int .i64 a,.int .i64 b] 97)).cell? ⟨w.heap.size,j,none⟩=(#[.int .i64 a,.int .i64 b]:Array Value)[j]?:=fun j=>Kit.zae _ _ _ _
 have s1:(w.alloc (.cells #[.int .i64 a,.int .i64 b] 97)).heap.size=w.heap.size+1:=by simp
 have k1:∀ j,((w.alloc (.cells #[.int .i64 a,.int .i64 b] 97)).alloc (.cells #[.int .i32 m,.int .i64 s,.int .i8 z] 27)).cell? ⟨w.heap.size+1,j,none⟩=(#[.int .i32 m,.int .i64 s,.int .i8 z]:Array Value)[j]?:=fun j=>by
  rw [← s1];exact Kit.zae _ _ _ _
 exact⟨⟨(World.cell?_alloc_lt _ _ _ (by simp)).trans (k0 0),(World.cell?_alloc_lt _ _ _ (by simp)).trans (k0 1)⟩,k1 0,k1 1,k1 2⟩
theorem cafter_to (a b m s z lo hi:Int) (ha1 : -9223372036854775808≤a) (ha2:a≤9223372036854775807) (hb1 : -9223372036854775808≤b) (hb2:b≤9223372036854775807) (hm1 : -2147483648≤m) (hm2:m≤2147483647) (hz1 : -128≤z) (hz2:z≤127) (hl1 : -128≤lo) (hl2:lo≤127) (hh1 : -128≤hi) (hh2:hi≤127) (w:World) :
  Calls Tryd.prog 50 #[.agg #[.int .i64 a,.int .i64 b],.agg #[.int .i32 m,.int .i64 s,.int .i8 z],.int .i8 lo,.int .i8 hi] w fun e w' =>
   e=.returned (.tuple #[.int .i8 (min (heldZ (c32 a) m s z lo hi) (heldZ (c32 b) m s z lo hi)),.int .i8 (max (heldZ (c32 a) m s z lo hi) (heldZ (c32 b) m s z lo hi))])∧Below w.heap.size w w':=by
 obtain⟨x,hx⟩:∃ x,heldZ (c32 a) m s z lo hi=x:=⟨_,rfl⟩
 obtain⟨y,hy⟩:∃ y,heldZ (c32 b) m s z lo hi=y:=⟨_,rfl⟩
 have k1:=min_ite x y
 have k2:=max_ite x y
 have C1:=hid (fun (w:World)=>chld_to a m s z lo hi x hm1 hm2 hz1 hz2 hl1 hl2 hh1 hh2 hx w)
 have C2:=hid (fun (w:World)=>chld_to b m s z lo hi y hm1 hm2 hz1 hz2 hl1 hl2 hh1 hh2 hy w)
 rw [hx,hy]
 generalize min x y=mn at *
 generalize max x y=mx at *
 have TN:=hid (AftAt.new a b m s z w)
 have HBW:=hid (((Below.refl w.heap.size w).alloc (le_refl _) (.cells #[.int .i64 a,.int .i64 b] 97)).alloc (by simp) (.cells #[.int .i32 m,.int .i64 s,.int .i8 z] 27))
 have yTN:w.heap.size+1 < ((w.alloc (.cells #[.int .i64 a,.int .i64 b] 97)).alloc (.cells #[.int .i32 m,.int .i64 s,.int .i8 z] 27)).heap.size:=by simp
 have HY:=hid yTN
 clear hx hy yTN
 go_enter Tryd.func50,Tryd.ntmps50
 go_upto_region 1 with fail
 generalize (w.alloc (.cells #[.int .i64 a,.int .i64 b] 97)).alloc (.cells #[.int .i32 m,.int .i64 s,.int .i8 z] 27)=W0 at TN HBW HY ⊢
 refine wp_region_held_drew (S:=AftAt w.heap.size a b m s z) (by kernel_rfl) TN.out (fun hHeld=>?_)
 replace HBW:=hid HBW.out.drew
 replace HY:Hid (w.heap.size+1 < W0.drew.heap.size):=hid HY.out
 clear TN
 generalize W0.drew=W1 at HBW HY hHeld ⊢
 refine Tk.x 0 rfl ?_
 try simp only [Tk.put]
 refine Tk.y 1 (v:=?_) rfl ?_ ?_
 rotate_left
 ·intro wS hSw
  obtain⟨⟨q1,q2⟩,q3,q4,q5⟩:=hSw
  first | (go_simp;done) | (go_simp;with_reducible rfl)
 try simp only [Tk.put]
 refine Tk.y 2 (v:=?_) rfl ?_ ?_
 rotate_left
 ·intro wS hSw
  obtain⟨⟨q1,q2⟩,q3,q4,q5⟩:=hSw
  first | (go_simp;done) | (go_simp;with_reducible rfl)
 try simp only [Tk.put]
 refine Tk.x 3 rfl ?_
 try simp only [Tk.put]
 refine Tk.x 4 rfl ?_
 try simp only [Tk.put]
 refine Tk.x 6 rfl ?_
 try simp only [Tk.put]
 refine Tk.y 7 (v:=?_) rfl ?_ ?_
 rotate_left
 ·intro wS hSw
  obtain⟨⟨q1,q2⟩,q3,q4,q5⟩:=hSw
  first | (go_simp;done) | (go_simp;with_reducible rfl)
 try simp only [Tk.put]
 refine Tk.y 8 (v:=?_) rfl ?_ ?_
 rotate_left
 ·intro wS hSw
  obtain⟨⟨q1,q2⟩,q3,q4,q5⟩:=hSw
  first | (go_simp;done) | (go_simp;with_reducible rfl)
 try simp only [Tk.put]
 refine Tk.x 9 rfl ?_
 try simp only [Tk.put]
 refine Tk.x 10 rfl ?_
 try simp only [Tk.put]
 refine Tk.s 5 rfl (fun Kq hK=>?_)
 go_simp
 go_at_call 84
 refine (C1.out _).mono ?_
 rintro e W2 ⟨rfl,hb1⟩
 have hS1:AftAt w.heap.size a b m s z W2:=hHeld.below HY.out hb1
 replace HBW:=hid (HBW.out.trans (hb1.mono HBW.out.size))
 replace HY:=hid (Nat.lt_of_lt_of_le HY.out hb1.size)
 clear hHeld hb1
 dsimp only
 refine hK.out _ _ ?_ (fun hHeld=>?_)
 ·exact hS1
 clear hK Kq
 try simp only [Tk.put]
 refine Tk.s 11 rfl (fun Kq hK=>?_)
 go_simp
 go_at_call 84
 refine (C2.out _).mono ?_
 rintro e W3 ⟨rfl,hb1⟩
 have hS1:AftAt w.heap.size a b m s z W3:=hHeld.below HY.out hb1
 replace HBW:=hid (HBW.out.trans (hb1.mono HBW.out.size))
 replace HY:=hid (Nat.lt_of_lt_of_le HY.out hb1.size)
 clear hHeld hb1
 dsimp only
 refine hK.out _ _ ?_ (fun hHeld=>?_)
 ·exact hS1
 clear hK Kq
 try simp only [Tk.put]
 refine Tk.x 12 rfl ?_
 try simp only [Tk.put]
 refine Tk.x 13 rfl ?_
 try simp only [Tk.put]
 refine wpAnyH_done (by kernel_rfl) ?_ _
 go_wp2_with fail
 refine bodyPost_ret (res_2 rfl _ _ _) rfl ?_
 exact⟨rfl,HBW.out⟩
end CSpan
end
end Go.Proofs.YtceehogkckdbkaaDoor
