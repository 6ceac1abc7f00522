/- -/
import Derived.StillTailTactics
import Derived.Deep.CutRange
import Derived.Test.YtchpdhhpkljdhaaGreatDoorGD5
open Go.Value renaming int→Jj
open Go.IntKind renaming i64→Jq
open Go.Lib (hid)
open Nat (le_refl lt_of_succ_lt lt_succ_self)
set_option linter.unusedVariables false
set_option linter.unusedSimpArgs false
set_option maxRecDepth 100000
set_option maxHeartbeats 16000000
namespace Go.Proofs.YtchpdhhpkljdhaaGreatDoor
namespace CSat
end CSat
open Go Go.ChangeShapes Go.WideShapes Go.ChangeAt Go.RowKit
section
namespace CShape
open Plain CSat
theorem refElems_yes (h w c n:Int) (h1:1≤h) (h2:h≤16) (h3:1≤w) (h4:w≤16) (h5:1≤c) (h6:c≤1024) (hn:h * w * c=n) (hn1:n≤1024) (W:World) :
  Calls Tryz.prog 65 #[.agg #[Jj Jq h,Jj Jq w,Jj Jq c]] W fun e w'=>e=.returned (Jj Jq n)∧Below W.heap.size W w':=by
 exact Z4n
theorem refElems_many (h w c n:Int) (h1:1≤h) (h2:h≤16) (h3:1≤w) (h4:w≤16) (h5:1≤c) (h6:c≤1024) (hn:h * w * c=n) (hn1:1024 < n) (W:World) :
  Calls Tryz.prog 65 #[.agg #[Jj Jq h,Jj Jq w,Jj Jq c]] W fun e w'=>e=.returned (Jj Jq 0)∧Below W.heap.size W w':=by
 exact Z4n
theorem refElems_out (h w c:Int) (hw:h < 1∨(1≤h∧16 < h)∨(1≤h∧h≤16∧w < 1)∨(1≤h∧h≤16∧1≤w∧16 < w)∨(1≤h∧h≤16∧1≤w∧w≤16∧c < 1)∨(1≤h∧h≤16∧1≤w∧w≤16∧1≤c∧1024 < c)) (W:World) :
  Calls Tryz.prog 65 #[.agg #[Jj Jq h,Jj Jq w,Jj Jq c]] W fun e w'=>e=.returned (Jj Jq 0)∧Below W.heap.size W w':=by
 rcases hw with h1 | ⟨h1,h2⟩ | ⟨h1,h2,h3⟩ | ⟨h1,h2,h3,h4⟩ | ⟨h1,h2,h3,h4,h5⟩ | ⟨h1,h2,h3,h4,h5,h6⟩
 all_goals
  go_enter Tryz.func65,Tryz.ntmps65
  go_wp2
  exact Z1a
theorem zas (h w c n:Int) (hn:zaz h w c=n) (W:World) :
  Calls Tryz.prog 65 #[.agg #[Jj Jq h,Jj Jq w,Jj Jq c]] W fun e w'=>e=.returned (Jj Jq n)∧Below W.heap.size W w':=by
 cases hs:zam h w c
 ·rw [zb6 hs] at hn
  subst hn
  by_cases hi:1≤h∧h≤16∧1≤w∧w≤16∧1≤c∧c≤1024
  ·obtain⟨a1,a2,a3,a4,a5,a6⟩:=hi
   exact refElems_many h w c _ a1 a2 a3 a4 a5 a6 rfl (by simp [zam] at hs;omega) W
  ·exact refElems_out h w c Zb3 W
 ·obtain⟨a1,a2,a3,a4,a5,a6,a7⟩:=zac hs
  rw [zay hs] at hn
  exact refElems_yes h w c n a1 a2 a3 a4 a5 a6 hn (hn ▸ a7) W
theorem zct {h w c:Int} (hs:zam h w c=true):∃ n,zaz h w c=n∧1≤n∧n≤1024:=by
 refine⟨_,rfl,?_,(elemsZ_bd h w c).2⟩
 have:=elemsZ_pos h w c
 rw [hs] at this
 simp at this;omega
theorem refSteps_arg (n k s p:Int) (h:argsB n k s p=false) (w:World) :
  Calls Tryz.prog 110 #[Jj Jq n,Jj Jq k,Jj Jq s,Jj Jq p] w fun e w'=>e=.returned (.tuple #[Jj Jq 0,Jj Jq 2])∧w=w':=by
 have h0:n < 1∨(1≤n∧1024 < n)∨(1≤n∧n≤1024∧k < 1)∨(1≤n∧n≤1024∧1≤k∧5 < k)∨(1≤n∧n≤1024∧1≤k∧k≤5∧s < 1)∨(1≤n∧n≤1024∧1≤k∧k≤5∧1≤s∧4 < s) ∨
  (1≤n∧n≤1024∧1≤k∧k≤5∧1≤s∧s≤4∧p < 0)∨(1≤n∧n≤1024∧1≤k∧k≤5∧1≤s∧s≤4∧0≤p∧4 < p)∨(1≤n∧n≤1024∧1≤k∧k≤5∧1≤s∧s≤4∧0≤p∧p≤4∧k≤p):=by
  have:=argsB_no h;omega
 clear h
 rcases h0 with h1 | ⟨h1,h2⟩ | ⟨h1,h2,h3⟩ | ⟨h1,h2,h3,h4⟩ | ⟨h1,h2,h3,h4,h5⟩ | ⟨h1,h2,h3,h4,h5,h6⟩ | ⟨h1,h2,h3,h4,h5,h6,h7⟩ | ⟨h1,h2,h3,h4,h5,h6,h7,h8⟩ | ⟨h1,h2,h3,h4,h5,h6,h7,h8,h9⟩
 all_goals
  go_enter Tryz.func110,Tryz.ntmps110
  go_wp2
  go_ret2
  exact⟨rfl,rfl⟩
theorem refSteps_in (n k s p m e:Int) (h:argsB n k s p=true) (hm:(if n+2 * p - k < 0 then 0 else (n+2 * p - k) / s+1)=m) (he:(if n+2 * p - k < 0 then 5 else 0)=e) (w:World) :
  Calls Tryz.prog 110 #[Jj Jq n,Jj Jq k,Jj Jq s,Jj Jq p] w fun e' w'=>e'=.returned (.tuple #[Jj Jq m,Jj Jq e])∧w=w':=by
 obtain⟨h1,h2,h3,h4,h5,h6,h7,h8,h9⟩:=za1 h
 clear h
 have hs:s=1∨s=2∨s=3∨s=4:=by omega
 have key:∀ i:Int,0≤i→i≤m→(i < m∧i * s≤n+2 * p - k∨i=m∧¬ i * s≤n+2 * p - k):=by
  intro i hi hl
  rcases hs with rfl | rfl | rfl | rfl <;> omega
 have key2:m=0∧e=5∨1≤m∧¬ m=0∧e=0:=by
  rcases hs with rfl | rfl | rfl | rfl <;> omega
 have hm0:0≤m:=by omega
 have hm9:m≤2000:=by rcases hs with rfl | rfl | rfl | rfl <;> omega
 have KEY:=hid key
 have KEY2:=hid key2
 clear hm he key key2 hs
 go_enter Tryz.func110,Tryz.ntmps110
 go_wp2
 go_loop [10,11] (fun c t=>∃ (i a:Int),0≤i∧i≤m∧c=Jj Jq i∧t=Jj Jq a∧0≤a+p∧a≤20000∧Hid (a = -p+i * s)) (fun c _=>(m - intOf c).toNat)
 case atStart=>exact⟨0, -p,by omega,by omega,rfl,rfl,by omega,by omega,hid Zb3⟩
 case round =>
  obtain⟨i,a,hi0,him,rfl,rfl,ha1,ha2,ha⟩:=hrel
  rcases KEY.out i hi0 him with ⟨q1,q2⟩ | ⟨q1,q2⟩
  ·have ht:a+k≤n+p:=by have:=ha.out;omega
   clear q2
   go_wp2
   go_round
   case rel=>exact⟨i+1,a+s,by omega,by omega,by go_num,by go_num,by omega,by omega,hid (by have:=ha.out;rw [Int.add_mul];omega)⟩
   case measure=>simp [intOf];omega
  ·have ht:¬ (a+k≤n+p):=by have:=ha.out;omega
   clear q2
   subst q1
   rcases KEY2.out with ⟨r1,r2⟩ | ⟨r1,r2,r3⟩
   ·subst r1 r2
    go_wp2
    go_ret2
    exact⟨rfl,rfl⟩
   ·subst r3
    go_wp2
    go_ret2
    exact⟨rfl,rfl⟩
theorem zb8 (n k s p m e:Int) (hm:zad n k s p=m) (he:zbm n k s p=e) (w:World) :
  Calls Tryz.prog 110 #[Jj Jq n,Jj Jq k,Jj Jq s,Jj Jq p] w fun r w'=>r=.returned (.tuple #[Jj Jq m,Jj Jq e])∧w=w':=by
 unfold zad at hm
 unfold zbm at he
 cases h:argsB n k s p
 ·rw [if_neg (by simp [h])] at hm he
  subst hm he
  exact refSteps_arg n k s p h w
 ·rw [if_pos h] at hm he
  exact refSteps_in n k s p m e h hm he w
end CShape
end
section
namespace CTensor
open Plain CSat CShape
theorem zal (H W C:Int) (A:Option Addr) (n c:Nat) (b:Bool) (hb:tensB H W C n=b) (w:World) :
  Calls Tryz.prog 22 #[.agg #[Jj Jq H,Jj Jq W,Jj Jq C,.slice A n c]] w fun e w'=>e=.returned (.bool b)∧Below w.heap.size w w':=by
 obtain⟨m,hm⟩:∃ m,zaz H W C=m:=⟨_,rfl⟩
 have hT:=tens_eq (n:=n) hm hb
 have HM:=hid hm
 have HB0:=hid (((Below.refl w.heap.size w).alloc (le_refl _) (.cells #[Jj Jq H,Jj Jq W,Jj Jq C,.slice A n c] 32)).drew)
 cases hr:zam H W C
 all_goals
  have HR:=hid hr
  rw [hr] at hT
  clear hr hb hm
 ·obtain⟨h0,rfl⟩:=hT
  have hz:m=0:=h0
  subst hz
  go_enter Tryz.func22,Tryz.ntmps22
  go_wp2_with fail
  refine wp_region_held_drew (S:=BoxAt w.heap.size H W C A n c) Zb5 (BoxAt.new _ _ _ _ _ _ _ _) (fun hHeld=>?_)
  refine Tk.y 0 (v:=?_) rfl ?_ ?_
  rotate_left
  ·exact Z3d
  refine Z5y ?_
  refine Tk.y 1 (v:=?_) rfl ?_ ?_
  rotate_left
  ·exact Z3d
  refine Z5y ?_
  refine Tk.s 2 rfl (fun K hK=>?_)
  go_simp
  go_at_call 65
  refine (CShape.zas H W C 0 HM.out _).mono ?_
  rintro e w1 ⟨rfl,hb1⟩
  refine Z8o ?_;intro hS1 hz1
  have HB1:=hid (HB0.out.trans (hb1.mono HB0.out.size))
  clear hb1 hHeld
  dsimp only
  refine hK.out _ _ ?_ (fun hHeld=>?_)
  ·exact hS1
  clear hK K
  refine Z5y ?_
  refine Z94 ?_
  refine Z5y ?_
  refine Z9b ?_
  refine Z5y ?_
  refine Tk.t 5 (v:=undef) rfl (Or.inr ⟨by rfl,rfl⟩) Zbd ?_
  refine Z5y ?_
  refine Tk.t 6 (v:=undef) rfl (Or.inr ⟨by rfl,rfl⟩) Zbd ?_
  refine Z5y ?_
  refine Tk.t 7 (v:=undef) rfl (Or.inr ⟨by rfl,rfl⟩) Zbd ?_
  refine Z5y ?_
  refine Tk.t 8 (v:=undef) rfl (Or.inr ⟨by rfl,rfl⟩) Zbd ?_
  refine Z5y ?_
  refine Tk.t 9 (v:=undef) rfl (Or.inr ⟨by rfl,rfl⟩) Zbd ?_
  refine Z5y ?_
  refine Tk.t 10 (v:=undef) rfl (Or.inr ⟨by rfl,rfl⟩) Zbd ?_
  refine Z5y ?_
  refine Tk.t 11 (v:=undef) rfl (Or.inr ⟨by rfl,rfl⟩) Zbd ?_
  refine Z5y ?_
  refine Zag ?_
  refine Z5y ?_
  refine Za6 ?_
  exact Z2z
 ·obtain⟨h0,rfl⟩:=hT
  go_enter Tryz.func22,Tryz.ntmps22
  go_wp2_with fail
  refine wp_region_held_drew (S:=BoxAt w.heap.size H W C A n c) Zb5 (BoxAt.new _ _ _ _ _ _ _ _) (fun hHeld=>?_)
  refine Tk.y 0 (v:=?_) rfl ?_ ?_
  rotate_left
  ·exact Z3d
  refine Z5y ?_
  refine Tk.y 1 (v:=?_) rfl ?_ ?_
  rotate_left
  ·exact Z3d
  refine Z5y ?_
  refine Tk.s 2 rfl (fun K hK=>?_)
  go_simp
  go_at_call 65
  refine (CShape.zas H W C m HM.out _).mono ?_
  rintro e w1 ⟨rfl,hb1⟩
  refine Z8o ?_;intro hS1 hz1
  have HB1:=hid (HB0.out.trans (hb1.mono HB0.out.size))
  clear hb1 hHeld
  dsimp only
  refine hK.out _ _ ?_ (fun hHeld=>?_)
  ·exact hS1
  clear hK K
  refine Z5y ?_
  refine Z94 ?_
  refine Z5y ?_
  refine Z9b ?_
  refine Z5y ?_
  refine Tk.y 5 (v:=?_) rfl ?_ ?_
  rotate_left
  ·exact Z3d
  refine Z5y ?_
  refine Tk.y 6 (v:=?_) rfl ?_ ?_
  rotate_left
  ·exact Z3d
  refine Z5y ?_
  refine Tk.y 8 (v:=?_) rfl ?_ ?_
  rotate_left
  ·exact Z3d
  refine Z5y ?_
  refine Tk.y 9 (v:=?_) rfl ?_ ?_
  rotate_left
  ·exact Z3d
  refine Z5y ?_
  refine Tk.y 10 (v:=?_) rfl ?_ ?_
  rotate_left
  ·exact Z3d
  refine Z5y ?_
  refine Tk.s 7 rfl (fun K hK=>?_)
  go_simp
  go_at_call 65
  refine (CShape.zas H W C m HM.out _).mono ?_
  rintro e w2 ⟨rfl,hb2⟩
  have hS2:=hHeld.below Zbo hb2
  have hz2:w.heap.size < w2.heap.size:=by have:=hb2.size;first | omega | (simp at this;omega)
  have HB2:=hid (HB1.out.trans (hb2.mono HB1.out.size))
  clear hb2 hHeld
  dsimp only
  refine hK.out _ _ ?_ (fun hHeld=>?_)
  ·exact hS2
  clear hK K
  refine Z5y ?_
  refine Za5 ?_
  refine Z5y ?_
  refine Zag ?_
  refine Z5y ?_
  refine Za6 ?_
  refine Z5y ?_
  refine Z6y ?_
  go_wp2
  go_ret
  exact⟨bool_comm _ _,HB2.out⟩
end CTensor
end
section
namespace CPad
open Plain CSat CShape CTensor
def pixZ (zs:List Int) (H W C h w k z:Int):Int:=if 0≤h∧h < H∧0≤w∧w < W then zs.getD ((h * W+w) * C+k).toNat 0 else z
theorem mul_lt {a b c d:Int} (h0:0≤a) (h1:a < b) (h2:0≤c) (h3:c < d):0≤a * d+c∧a * d+c < b * d:=by
 have e1:0≤a * d:=Int.mul_nonneg h0 Zb3
 have e2:(a+1) * d≤b * d:=Int.mul_le_mul_of_nonneg_right Zb3 Zb3
 rw [Int.add_mul,Int.one_mul] at e2
 omega
theorem place_bd {H W C h w k:Int} {n:Nat} (hs:zam H W C=true) (hn:(n:Int)=H * W * C) (h0:0≤h) (h1:h < H) (w0:0≤w) (w1:w < W) (k0:0≤k) (k1:k < C) :
  0≤h * W∧h * W≤256∧0≤h * W+w∧h * W+w≤256∧0≤(h * W+w) * C∧(h * W+w) * C≤1024∧0≤(h * W+w) * C+k∧(h * W+w) * C+k < (n:Int):=by
 obtain⟨a1,a2,a3,a4,a5,a6,a7⟩:=zac hs
 have m1:=mul_lt h0 h1 w0 w1
 have m2:=mul_lt m1.1 m1.2 k0 k1
 have e1:0≤h * W:=Int.mul_nonneg h0 Zb3
 have e2:H * W≤256:=Int.mul_le_mul a2 a4 Zb3 Zb3
 have e3:0≤(h * W+w) * C:=Int.mul_nonneg m1.1 Zb3
 rw [← hn] at m2 a7
 exact⟨e1,by omega,m1.1,by omega,e3,by omega,m2.1,m2.2⟩
theorem get_to (H W C:Int) (A:Option Addr) (zs:List Int) (n c:Nat) (hn:zs.length=n) (ht:tensB H W C n=true) (h w k:Int) (h0:0≤h) (h1:h < H) (w0:0≤w) (w1:w < W) (k0:0≤k) (k1:k < C) (x:Int) (hx:zs.getD ((h * W+w) * C+k).toNat 0=x)
  {B:Nat} (W0:World) (hB:B≤W0.heap.size) (hr:Kit.Rd W0 B A (I8s zs)) :
  Calls Tryz.prog 111 #[.agg #[Jj Jq H,Jj Jq W,Jj Jq C,.slice A n c],Jj Jq h,Jj Jq w,Jj Jq k] W0 fun e w'=>e=.returned (.int .i8 x)∧Below W0.heap.size W0 w':=by
 simp only [tensB,Bool.and_eq_true,decide_eq_true_eq] at ht
 obtain⟨g1,g2,g3,g4,g5,g6,g7,g8⟩:=place_bd ht.1 ht.2 h0 h1 w0 w1 k0 k1
 obtain⟨p,hp⟩:∃ p:Nat,(h * W+w) * C+k=(p:Int):=⟨((h * W+w) * C+k).toNat,by omega⟩
 have hpn:p < n:=by omega
 rw [hp] at hx
 have hx2:zs[p]' Zb3=x:=by
  rw [← hx];simp [List.getD_eq_getElem?_getD,List.getElem?_eq_getElem (show p < zs.length by omega)]
 obtain⟨b,off,rfl,hbB,hc⟩:=hr.plain (by simp [I8s];omega)
 have hcell:W0.cell? ⟨b,off+p,none⟩=some (.int .i8 x):=hc p _ (by simp [I8s,List.getElem?_eq_getElem (show p < zs.length by omega),hx2])
 have hcell2:∀ o,(W0.alloc o).cell? ⟨b,off+p,none⟩=some (.int .i8 x):=fun o=>(World.cell?_alloc_lt W0 o _ (by show b < _;omega)).trans hcell
 have hpI:(p:Int) < (n:Int):=by omega
 have hp0:(0:Int)≤(p:Int):=by omega
 have hp1:(p:Int)≤1024:=by have:=(zac ht.1).2.2.2.2.2.2;rw [← ht.2] at this;omega
 clear hr hx hx2 hc g7 g8 hcell ht
 go_enter Tryz.func111,Tryz.ntmps111
 go_wp2
 exact Z1a
theorem pix_in (H W C:Int) (A:Option Addr) (zs:List Int) (n c:Nat) (hn:zs.length=n) (ht:tensB H W C n=true) (h w k z:Int) (h0:0≤h) (h1:h < H) (w0:0≤w) (w1:w < W) (k0:0≤k) (k1:k < C) (x:Int) (hx:zs.getD ((h * W+w) * C+k).toNat 0=x)
  {B:Nat} (W0:World) (hB:B≤W0.heap.size) (hr:Kit.Rd W0 B A (I8s zs)) :
  Calls Tryz.prog 116 #[.agg #[Jj Jq H,Jj Jq W,Jj Jq C,.slice A n c],Jj Jq h,Jj Jq w,Jj Jq k,.int .i8 z] W0 fun e w'=>e=.returned (.int .i8 x)∧Below W0.heap.size W0 w':=by
 have HN:=hid hn
 have HT:=hid ht
 have HX:=hid hx
 have HR:=hid hr
 clear hn ht hx hr
 go_enter Tryz.func116,Tryz.ntmps116
 go_wp2_with (go_at_call 111;(refine (get_to H W C A zs n c HN.out HT.out h w k h0 h1 w0 w1 k0 k1 x HX.out (B:=B) _ Zba (HR.out.alloc hB _)).mono ?_);rintro e w1 ⟨rfl,hb⟩;(have HB:=hid (((Below.refl W0.heap.size W0).alloc (le_refl _) _).trans (hb.mono Zb7)));clear hb)
 go_ret
 exact⟨rfl,HB.out⟩
theorem pix_out (H W C:Int) (A:Option Addr) (n c:Nat) (h w k z:Int) (hz:¬ (0≤h∧h < H∧0≤w∧w < W)) (W0:World) :
  Calls Tryz.prog 116 #[.agg #[Jj Jq H,Jj Jq W,Jj Jq C,.slice A n c],Jj Jq h,Jj Jq w,Jj Jq k,.int .i8 z] W0 fun e w'=>e=.returned (.int .i8 z)∧Below W0.heap.size W0 w':=by
 have hz2:h < 0∨(0≤h∧H≤h)∨(0≤h∧h < H∧w < 0)∨(0≤h∧h < H∧0≤w∧W≤w):=by omega
 clear hz
 rcases hz2 with a1 | ⟨a1,a2⟩ | ⟨a1,a2,a3⟩ | ⟨a1,a2,a3,a4⟩
 all_goals
  go_enter Tryz.func116,Tryz.ntmps116
  go_wp2_with fail
  exact Z1a
theorem pix_to (H W C:Int) (A:Option Addr) (zs:List Int) (n c:Nat) (hn:zs.length=n) (ht:tensB H W C n=true) (h w k z:Int) (k0:0≤k) (k1:k < C) (x:Int) (hx:pixZ zs H W C h w k z=x)
  {B:Nat} (W0:World) (hB:B≤W0.heap.size) (hr:Kit.Rd W0 B A (I8s zs)) :
  Calls Tryz.prog 116 #[.agg #[Jj Jq H,Jj Jq W,Jj Jq C,.slice A n c],Jj Jq h,Jj Jq w,Jj Jq k,.int .i8 z] W0 fun e w'=>e=.returned (.int .i8 x)∧Below W0.heap.size W0 w':=by
 unfold pixZ at hx
 by_cases hi:0≤h∧h < H∧0≤w∧w < W
 ·rw [if_pos hi] at hx
  exact pix_in H W C A zs n c hn ht h w k z hi.1 hi.2.1 hi.2.2.1 hi.2.2.2 k0 k1 x hx W0 hB hr
 ·rw [if_neg hi] at hx
  subst hx
  exact pix_out H W C A n c h w k z hi W0
end CPad
end
section
namespace CWheel
open FloatNum CFour
theorem four_of_heap {w:World} {g:Nat} {a b c d:Value} {T:TypeId} (h:w.heap[g]?=some (.cells #[a,b,c,d] T (0,0))) (S:Nat→Value) (h0:S 0=a) (h1:S 1=b) (h2:S 2=c) (h3:S 3=d):Four g S w:=by
 have hlt:g < w.heap.size:=by
  rcases Nat.lt_or_ge g w.heap.size with h | h
  ·exact h
  ·rename_i h5;rw [Array.getElem?_eq_none h] at h5;cases h5
 refine⟨fun i hi=>?_,fun i hi=>?_,hlt⟩
 ·rw [cell_of_row _ _ _ _ _ _ h]
  obtain rfl | rfl | rfl | rfl:=lt4 hi
  ·rw [h0];rfl
  ·rw [h1];rfl
  ·rw [h2];rfl
  ·rw [h3];rfl
 ·simp [World.frozen?,h]
theorem copy_len {row:List Int} {m f:Nat} (h:row.length=m):(((row.drop f).take 4).map (Value.int .i16)).length=Nat.min (m - f) 4:=by
 simp only [List.length_map,List.length_take,List.length_drop,h]
 exact Nat.min_comm _ _
theorem copy_fit (row:List Int) (f:Nat):0+(((row.drop f).take 4).map (Value.int .i16)).length≤[Value.int .i16 0,.int .i16 0,.int .i16 0,.int .i16 0].length:=by
 simp only [List.length_map,List.length_take,List.length_drop,List.length_cons,List.length_nil]
 omega
theorem copy_src {w:World} {B bx ox:Nat} {row:List Int} {f:Nat} (h:Kit.Rd w B (some ⟨bx,ox,none⟩) (row.map (Value.int .i16))):∀ j v,(((row.drop f).take 4).map (Value.int .i16))[j]?=some v→w.cell? ((⟨bx,ox+f,none⟩:Addr).add j)=some v:=fun j v hj=>by
 rw [List.getElem?_map,List.getElem?_take] at hj
 split at hj
 ·rw [List.getElem?_drop] at hj
  obtain⟨ad,e,_,hc⟩:=h (f+j) v (by rw [List.getElem?_map];exact hj)
  cases e
  rw [Go.WideShapes.add_plain] at hc ⊢
  rw [Nat.add_assoc];exact hc
 ·simp at hj
theorem turned_to (A:Option Addr) (rows:List (List Int)) (n cA:Nat) (AW:Option Addr) (cW:Nat) (W:Nat→Nat→Int) (L f:Nat) (hn:rows.length=n) (hN:n≤1024) (hL:∀ row∈rows,row.length=L) (hf:f+3≤L)
  (hX:∀ k i,In16 (XR rows k i)) (hW:∀ k i,InW (W k i)) (w:World) (hr:Kit.zb4 w w.heap.size .i16 A rows) (hw:Wheels w w.heap.size AW n W) :
  Calls Tryz.prog 144 #[.slice A n cA,.slice AW n cW,Jj Jq (f:Int)] w fun e' w'=>(∃ S p,e'=.returned (agg4 S)∧(∀ i,i < 4→IsC (S i) (p i))∧Turns (XR rows) W f n p)∧Below w.heap.size w w':=by
 have HN:=hid hn
 have HL:=hid hL
 have HXX:=hid hX
 have HWW:=hid hW
 have HR:=hid hr
 have HW:=hid hw
 clear hn hL hX hW hr hw
 go_enter Tryz.func144,Tryz.ntmps144
 go_wp2_with fail
 go_loopw [13] (fun u wr=>∃ (k:Nat) (S:Nat→Value) (p:Nat→G),k≤n∧u=Jj Jq k∧Hid (∀ i,i < 4→IsC (S i) (p i))∧Hid (Turns (XR rows) W f k p)∧Hid (Four (w.heap.size+1) S wr)∧Hid (Four w.heap.size (fun _=>z0) wr)∧Hid (Below w.heap.size w wr)) (fun u _=>n - (intOf u).toNat)
 case atStart =>
  have h0:=(Four.new w z0 178).below (Below.refl _ _ |>.alloc (le_refl _) (.cells #[z0,z0,z0,z0] 178)) Zb7
  have h1:=Four.new (w.alloc (.cells #[z0,z0,z0,z0] 178)) z0 178
  have e1:(w.alloc (.cells #[z0,z0,z0,z0] 178)).heap.size=w.heap.size+1:=by simp
  rw [e1] at h1
  exact⟨0,fun _=>z0,fun _=>(0,0),Nat.zero_le _,rfl,hid (fun i hi=>⟨_,_,rfl,isF_zero,isF_zero⟩),hid (Turns.start _ _ _),hid h1,hid h0,hid (((Below.refl _ _).alloc (le_refl _) _).alloc Zb7 _)⟩
 case round =>
  obtain⟨k,S,p,hk,rfl,HS,HT,HF,HZ,HB⟩:=hrel
  by_cases hlt:k < n
  ·have hkI:(k:Int) < (n:Int):=by omega
   refine Z93 ?_;intro hk0
   obtain⟨bw,ow,Sw,rfl,hbw,hSw,hcw⟩:=HW.out k hlt
   obtain⟨ba,oa,Ak,m,ck,rfl,hba,hca,hm1,hm2,hm3,hrd⟩:=HR.out.row (i:=k) (by rw [HN.out];exact hlt)
   have hmL:m=L:=by rw [← hm1];exact HL.out _ (List.getElem_mem _)
   subst hmL
   obtain⟨bx,ox,rfl,hbx,hcx⟩:=hrd.plain Zba
   obtain⟨row,hrow⟩:∃ row,rows[k]'(by rw [HN.out];exact hlt)=row:=⟨_,rfl⟩
   have hXk:∀ i,XR rows k i=row.getD i 0:=fun i=>by rw [← hrow];exact XR_at (by rw [HN.out];exact hlt) i
   rw [hrow] at hm1 hcx hrd
   have HRW:=hid (zcv hcw HB.out hbw)
   have HCA:Hid (wr.cell? ⟨ba,oa+k,none⟩=some (.slice (some ⟨bx,ox,none⟩) m ck)):=hid ((HB.out.cell (p:=⟨ba,oa+k,none⟩) hba).trans hca)
   have HRD:=hid (hrd.below HB.out)
   have HSW:=hid hSw
   have HXK:=hid hXk
   have HM1:=hid hm1
   have HNE:Hid (∀ (i:Nat),¬ w.heap.size+1=wr.heap.size+i):=hid (fun i=>by have:=HF.out.2.2;omega)
   have hlt1:=HF.out.2.2
   have hmx:ck≤9223372036854775807:=Nat.le_trans hm3 Zbc
   have f1:¬ ck=f:=by omega
   have f2:(f:Int)≤(m:Int):=by omega
   have f3:(0:Int)≤(f:Int):=by omega
   have f4:(m:Int)≤(ck:Int):=by omega
   clear hcw hca hrd hcx hSw hXk hm1 hm3 hrow
   go_upto_region 5 with (first
    | (refine wpList_load_mid rfl 178 (.tmp 16) rfl bw (ow+k * 4) rfl [Sw 0,Sw 1,Sw 2,Sw 3] _ HRW.out Tryz.underlying178 rfl Zb5 ?_)
    | (refine wpList_store_mid rfl 178 (.tmp 9) (.tmp 17) rfl wr.heap.size 0 #[Sw 0,Sw 1,Sw 2,Sw 3] rfl rfl (Four.new wr z0 178).there Zb5 (oneC HSW.out) ?_;change wpList _ _ _ _ _ (CFour.set4 wr.heap.size Sw (wr.alloc (.cells #[z0,z0,z0,z0] 178)))))
   have hal:Below wr.heap.size wr (CFour.set4 wr.heap.size Sw (wr.alloc (.cells #[z0,z0,z0,z0] 178))):=zcl ((Below.refl wr.heap.size wr).alloc (le_refl _) (.cells #[z0,z0,z0,z0] 178)) (le_refl _) Sw
   have HWH:=hid ((Four.new wr z0 178).set4 Sw)
   have hz1:(CFour.set4 wr.heap.size Sw (wr.alloc (.cells #[z0,z0,z0,z0] 178))).heap.size=wr.heap.size+1:=by simp [CFour.set4]
   replace HF:=hid (HF.out.below hal hlt1)
   replace HZ:=hid (HZ.out.below hal Zb3)
   replace HCA:Hid ((CFour.set4 wr.heap.size Sw (wr.alloc (.cells #[z0,z0,z0,z0] 178))).cell? ⟨ba,oa+k,none⟩=some (.slice (some ⟨bx,ox,none⟩) m ck)):=hid ((hal.cell (p:=⟨ba,oa+k,none⟩) (by show ba < _;omega)).trans HCA.out)
   replace HRD:=hid (HRD.out.below (hal.mono Zb3))
   replace HB:=hid (HB.out.trans (hal.mono Zb3))
   generalize CFour.set4 wr.heap.size Sw (wr.alloc (.cells #[z0,z0,z0,z0] 178))=w1 at HWH HF HZ HCA HRD HB hz1 ⊢
   clear hal HRW
   go_upto_region 6 with fail
   have hal:Below w1.heap.size w1 (w1.alloc (.cells #[.int .i16 0,.int .i16 0,.int .i16 0,.int .i16 0] 191)).drew:=((Below.refl w1.heap.size w1).alloc (le_refl _) (.cells #[.int .i16 0,.int .i16 0,.int .i16 0,.int .i16 0] 191)).drew
   have hG:(w1.alloc (.cells #[.int .i16 0,.int .i16 0,.int .i16 0,.int .i16 0] 191)).drew.heap[w1.heap.size]?=some (.cells #[.int .i16 0,.int .i16 0,.int .i16 0,.int .i16 0] 191 (0,0)):=heap_alloc_new w1 _
   have hz2:(w1.alloc (.cells #[.int .i16 0,.int .i16 0,.int .i16 0,.int .i16 0] 191)).drew.heap.size=wr.heap.size+2:=by simp [hz1]
   replace HF:=hid (HF.out.below hal Zb3)
   replace HZ:=hid (HZ.out.below hal Zb3)
   replace HWH:=hid (HWH.out.below hal Zb3)
   have c1:(w1.alloc (.cells #[.int .i16 0,.int .i16 0,.int .i16 0,.int .i16 0] 191)).drew.cell? ⟨ba,oa+k,none⟩=some (.slice (some ⟨bx,ox,none⟩) m ck):=(hal.cell (p:=⟨ba,oa+k,none⟩) (by show ba < _;omega)).trans HCA.out
   replace HRD:=hid (HRD.out.below (hal.mono Zb3))
   replace HB:=hid (HB.out.trans (hal.mono Zb3))
   have HG:=hid hG
   clear hal HCA hG
   refine wp_region_still_tail 7 Zb5 Zb5 ?_
   rw [show ({ (w1.alloc (.cells #[.int .i16 0,.int .i16 0,.int .i16 0,.int .i16 0] 191)) with drawn:=(w1.alloc (.cells #[.int .i16 0,.int .i16 0,.int .i16 0,.int .i16 0] 191)).drawn+1 } : World)=(w1.alloc (.cells #[.int .i16 0,.int .i16 0,.int .i16 0,.int .i16 0] 191)).drew from rfl]
   generalize (w1.alloc (.cells #[.int .i16 0,.int .i16 0,.int .i16 0,.int .i16 0] 191)).drew=w2 at HF HZ HWH c1 HRD HB HG hz2 ⊢
   rw [hz1] at HG
   simp only [List.take_succ_cons,List.take_zero,List.drop_succ_cons,List.drop_zero]
   repeat still_step
   refine wpStill_nil ?_
   refine wpList_copy_splice rfl (.tmp 18) (.tmp 24) _ _ rfl 157 Tryz.underlying112 Zb5 (some ⟨wr.heap.size+1,0,none⟩) (some ⟨bx,ox+f,none⟩) 4 4 (m - f) (ck - f) rfl rfl (wr.heap.size+1) 0 [.int .i16 0,.int .i16 0,.int .i16 0,.int .i16 0] 191 HG.out (((row.drop f).take 4).map (Value.int .i16)) (copy_len HM1.out) (fun _=>⟨rfl,_,rfl,copy_src HRD.out⟩) (copy_fit row f) (Kit.za5 _ _) (wr.heap.size+1) w2 (Below.refl _ _) (le_refl _) (fun w3' hH hB3=>?_)
   have hN4:Four (wr.heap.size+1) (fun i=>.int .i16 (l4 (row.getD f 0) (row.getD (f+1) 0) (row.getD (f+2) 0) (row.getD (f+3) 0) i)) w3':=by
    have h8:=hH.out
    rw [splice_four] at h8
    exact four_of_heap h8 _ rfl rfl rfl rfl
   obtain⟨qa,hqa⟩:∃ qa,row.getD f 0=qa:=⟨_,rfl⟩
   obtain⟨qb,hqb⟩:∃ qb,row.getD (f+1) 0=qb:=⟨_,rfl⟩
   obtain⟨qc,hqc⟩:∃ qc,row.getD (f+2) 0=qc:=⟨_,rfl⟩
   obtain⟨qd,hqd⟩:∃ qd,row.getD (f+3) 0=qd:=⟨_,rfl⟩
   rw [hqa,hqb,hqc,hqd] at hN4
   have HQA:=hid (HXX.out k f)
   have HQB:=hid (HXX.out k (f+1))
   have HQC:=hid (HXX.out k (f+2))
   have HQD:=hid (HXX.out k (f+3))
   rw [HXK.out,hqa] at HQA
   rw [HXK.out,hqb] at HQB
   rw [HXK.out,hqc] at HQC
   rw [HXK.out,hqd] at HQD
   have HTN:=hid (HT.out.step ((HXK.out f).trans hqa) ((HXK.out (f+1)).trans hqb) ((HXK.out (f+2)).trans hqc) ((HXK.out (f+3)).trans hqd) rfl rfl rfl HQA.out HQB.out HQC.out HQD.out (HWW.out k 0) (HWW.out k 1) (HWW.out k 2))
   have HPM:=hid (fun i=>wh_mul HQA.out HQB.out HQC.out HQD.out (HWW.out k 0) (HWW.out k 1) (HWW.out k 2) i)
   have HPA:=hid (fun i=>wh_in HQA.out HQB.out HQC.out HQD.out i)
   have HPW:=hid (fun i=>wh_inw (HWW.out k 0) (HWW.out k 1) (HWW.out k 2) i)
   have HAB:Hid (k * 134217728+134217728 < 2 ^ 53):=hid Zb3
   have HLL:Hid (131072 < 2 ^ 53∧512 < 2 ^ 53∧131072 * 512+131072 * 512 < 2 ^ 53):=hid Zbc
   have HS1:Hid (wr.heap.size+2≤w3'.heap.size):=hid (by have:=hB3.size;omega)
   replace HF:=hid (HF.out.below hB3 Zb3)
   replace HZ:=hid (HZ.out.below hB3 Zb3)
   replace HWH:=hid (HWH.out.below hB3 Zb3)
   replace HB:=hid (HB.out.trans (hB3.mono Zb3))
   have HN4:=hid hN4
   have HNN:Hid (w.heap.size≠w.heap.size+1∧wr.heap.size≠w.heap.size+1∧wr.heap.size+1≠w.heap.size+1):=hid ⟨by omega,by omega,by omega⟩
   have HLE:Hid (w.heap.size≤w.heap.size+1):=hid Zb3
   clear hN4 hqa hqb hqc hqd hB3 hH HG c1 HRD HM1 hz1 hz2 hf f1 f2 f3 f4 hm2 hmx HXK
   generalize hg1:w.heap.size+1=g1 at HF HNN HLE ⊢
   generalize hg3:wr.heap.size+1=g3 at HN4 HNN ⊢
   generalize hg2:wr.heap.size=g2 at HWH HNN ⊢
   simp only [Act.put,List.setIfInBounds_toArray,List.set_cons_zero,List.set_cons_succ]
   generalize (goInt (((row.drop f).take 4).map (Value.int .i16)).length)=vcp
   go_upto_region 7 with fail
   refine wp_region_held_drew (S:=fun W=>Four g3 (fun i=>Value.int .i16 (l4 qa qb qc qd i)) W∧Four g2 Sw W) Zb5 ⟨HN4.out.drew,HWH.out.drew⟩ (fun hHeld=>?_)
   replace HF:=hid HF.out.drew
   replace HZ:=hid HZ.out.drew
   replace HN4:=hid HN4.out.drew
   replace HWH:=hid HWH.out.drew
   replace HB:=hid HB.out.drew
   generalize w3'.drew=Wd at HF HZ HN4 HWH HB hHeld ⊢
   have hY1:∀ W,(Four g3 (fun i=>Value.int .i16 (l4 qa qb qc qd i)) W∧Four g2 Sw W)→W.rangeAt g3 0 [.int .i16 qa,.int .i16 qb,.int .i16 qc,.int .i16 qd]:=fun W hW=>zao (hW.1.1 0 Zb3) (hW.1.1 1 Zb3) (hW.1.1 2 Zb3) (hW.1.1 3 Zb3)
   refine Tk.t 1 (v:=.agg #[.int .i16 qa,.int .i16 qb,.int .i16 qc,.int .i16 qd]) rfl (yieldsIf_load_mid Zbu _ _ rfl g3 0 rfl [.int .i16 qa,.int .i16 qb,.int .i16 qc,.int .i16 qd] _ hY1 Tryz.underlying191 rfl Zb5) Zbd ?_
   refine Z5y ?_
   clear hY1
   have hY3:∀ W,(Four g3 (fun i=>Value.int .i16 (l4 qa qb qc qd i)) W∧Four g2 Sw W)→W.rangeAt g2 0 [Sw 0,Sw 1,Sw 2,Sw 3]:=fun W hW=>zao (hW.2.1 0 Zb3) (hW.2.1 1 Zb3) (hW.2.1 2 Zb3) (hW.2.1 3 Zb3)
   refine Tk.t 3 (v:=.agg #[Sw 0,Sw 1,Sw 2,Sw 3]) rfl (yieldsIf_load_mid Zbu _ _ rfl g2 0 rfl [Sw 0,Sw 1,Sw 2,Sw 3] _ hY3 Tryz.underlying178 rfl Zb5) Zbd ?_
   refine Z5y ?_
   clear hY3
   refine wpAnyH_ready (rs:=[0,2]) Zb5 Zb7 ?_
   refine Tk.c rfl (fun K hK=>?_) ?_
   ·refine Eq.mpr (if_pos Zb5) ?_
    refine wp_load_mid 178 (.tmp 7) rfl g1 0 rfl [S 0,S 1,S 2,S 3] _ (zao (HF.out.1 0 Zb3) (HF.out.1 1 Zb3) (HF.out.1 2 Zb3) (HF.out.1 3 Zb3)) Tryz.underlying178 rfl Zb5 ?_
    clear hHeld
    refine hK.out _ _ ?_ (fun hHeld=>?_)
    ·exact⟨HN4.out,HWH.out⟩
    clear hK K
    refine Z5y ?_
    refine Tk.s 2 rfl (fun K hK=>?_)
    go_simp
    go_at_call 150
    refine (of_to qa qb qc qd HQA.out HQB.out HQC.out HQD.out _).mono ?_
    rintro e Wc1 ⟨⟨SA,rfl,hSA⟩,hb1⟩
    have HSA:=hid hSA
    clear hSA
    refine Z73 ?_;try clear HF HZ HN4 HWH HB;clear hb1 hHeld;intro HF HZ HN4 HWH HB
    refine hK.out _ _ ?_ (fun hHeld=>?_)
    ·exact⟨HN4.out,HWH.out⟩
    clear hK K
    refine Z5y ?_
    refine Tk.s 4 rfl (fun K hK=>?_)
    go_simp
    go_at_call 153
    refine (times_to SA Sw (wh4 qa qb qc qd) (wh4 (W k 0) 0 (W k 2) (W k 1)) 131072 512 HLL.out.1 HLL.out.2.1 HLL.out.2.2 HSA.out HSW.out HPA.out HPW.out _).mono ?_
    rintro e Wc2 ⟨⟨SC,rfl,hSC⟩,hb1⟩
    have HSC:=hid hSC
    clear hSC
    refine Z73 ?_;try clear HF HZ HN4 HWH HB;clear hb1 hHeld;intro HF HZ HN4 HWH HB
    refine hK.out _ _ ?_ (fun hHeld=>?_)
    ·exact⟨HN4.out,HWH.out⟩
    clear hK K
    refine Z5y ?_
    refine Tk.s 5 rfl (fun K hK=>?_)
    go_simp
    go_at_call 152
    refine (plus_to S SC p (fun i=>gmul (wh4 qa qb qc qd i) (wh4 (W k 0) 0 (W k 2) (W k 1) i)) (k * 134217728) 134217728 HAB.out HS.out HSC.out HT.out.bound HPM.out _).mono ?_
    rintro e Wc3 ⟨⟨SD,rfl,hSD⟩,hb1⟩
    have HSD:=hid hSD
    clear hSD
    refine Z73 ?_;try clear HF HZ HN4 HWH HB;clear hb1 hHeld;intro HF HZ HN4 HWH HB
    refine hK.out _ _ ?_ (fun hHeld=>?_)
    ·exact⟨HN4.out,HWH.out⟩
    clear hK K
    refine Z5y ?_
    refine Tk.s 6 rfl (fun K hK=>?_)
    refine Eq.mpr (if_pos Zb5) ?_
    refine wp_store_mid 178 _ _ rfl g1 0 #[SD 0,SD 1,SD 2,SD 3] rfl rfl HF.out.there Zb5 (oneC HSD.out) ?_
    change K _ (CFour.set4 g1 SD Wc3)
    refine Z98 ?_;try clear HF HZ HWH HN4 HB;intro HF HZ HWH HN4 HB
    clear hHeld
    generalize CFour.set4 g1 SD Wc3=We at HF HZ HWH HN4 HB ⊢
    exact Z1e
   refine Tk.c rfl (fun K hK=>?_) ?_
   ·go_simp
    go_at_call 150
    refine (of_to qa qb qc qd HQA.out HQB.out HQC.out HQD.out _).mono ?_
    rintro e Wc4 ⟨⟨SA,rfl,hSA⟩,hb1⟩
    have HSA:=hid hSA
    clear hSA
    refine Z73 ?_;try clear HF HZ HN4 HWH HB;clear hb1 hHeld;intro HF HZ HN4 HWH HB
    refine hK.out _ _ ?_ (fun hHeld=>?_)
    ·exact⟨HN4.out,HWH.out⟩
    clear hK K
    refine Z5y ?_
    refine wpAnyH_ready (rs:=[0,4]) Zb5 Zb7 ?_
    refine Tk.c rfl (fun K hK=>?_) ?_
    ·refine Eq.mpr (if_pos Zb5) ?_
     refine wp_load_mid 178 (.tmp 7) rfl g1 0 rfl [S 0,S 1,S 2,S 3] _ (zao (HF.out.1 0 Zb3) (HF.out.1 1 Zb3) (HF.out.1 2 Zb3) (HF.out.1 3 Zb3)) Tryz.underlying178 rfl Zb5 ?_
     clear hHeld
     refine hK.out _ _ ?_ (fun hHeld=>?_)
     ·exact⟨HN4.out,HWH.out⟩
     clear hK K
     refine Z5y ?_
     refine Tk.s 4 rfl (fun K hK=>?_)
     go_simp
     go_at_call 153
     refine (times_to SA Sw (wh4 qa qb qc qd) (wh4 (W k 0) 0 (W k 2) (W k 1)) 131072 512 HLL.out.1 HLL.out.2.1 HLL.out.2.2 HSA.out HSW.out HPA.out HPW.out _).mono ?_
     rintro e Wc5 ⟨⟨SC,rfl,hSC⟩,hb1⟩
     have HSC:=hid hSC
     clear hSC
     refine Z73 ?_;try clear HF HZ HN4 HWH HB;clear hb1 hHeld;intro HF HZ HN4 HWH HB
     refine hK.out _ _ ?_ (fun hHeld=>?_)
     ·exact⟨HN4.out,HWH.out⟩
     clear hK K
     refine Z5y ?_
     refine Tk.s 5 rfl (fun K hK=>?_)
     go_simp
     go_at_call 152
     refine (plus_to S SC p (fun i=>gmul (wh4 qa qb qc qd i) (wh4 (W k 0) 0 (W k 2) (W k 1) i)) (k * 134217728) 134217728 HAB.out HS.out HSC.out HT.out.bound HPM.out _).mono ?_
     rintro e Wc6 ⟨⟨SD,rfl,hSD⟩,hb1⟩
     have HSD:=hid hSD
     clear hSD
     refine Z73 ?_;try clear HF HZ HN4 HWH HB;clear hb1 hHeld;intro HF HZ HN4 HWH HB
     refine hK.out _ _ ?_ (fun hHeld=>?_)
     ·exact⟨HN4.out,HWH.out⟩
     clear hK K
     refine Z5y ?_
     refine Tk.s 6 rfl (fun K hK=>?_)
     refine Eq.mpr (if_pos Zb5) ?_
     refine wp_store_mid 178 _ _ rfl g1 0 #[SD 0,SD 1,SD 2,SD 3] rfl rfl HF.out.there Zb5 (oneC HSD.out) ?_
     change K _ (CFour.set4 g1 SD Wc6)
     refine Z98 ?_;try clear HF HZ HWH HN4 HB;intro HF HZ HWH HN4 HB
     clear hHeld
     generalize CFour.set4 g1 SD Wc6=We at HF HZ HWH HN4 HB ⊢
     exact Z1e
    refine Tk.c rfl (fun K hK=>?_) ?_
    ·go_simp
     go_at_call 153
     refine (times_to SA Sw (wh4 qa qb qc qd) (wh4 (W k 0) 0 (W k 2) (W k 1)) 131072 512 HLL.out.1 HLL.out.2.1 HLL.out.2.2 HSA.out HSW.out HPA.out HPW.out _).mono ?_
     rintro e Wc7 ⟨⟨SC,rfl,hSC⟩,hb1⟩
     have HSC:=hid hSC
     clear hSC
     refine Z73 ?_;try clear HF HZ HN4 HWH HB;clear hb1 hHeld;intro HF HZ HN4 HWH HB
     refine hK.out _ _ ?_ (fun hHeld=>?_)
     ·exact⟨HN4.out,HWH.out⟩
     clear hK K
     refine Z5y ?_
     refine Tk.s 0 rfl (fun K hK=>?_)
     refine Eq.mpr (if_pos Zb5) ?_
     refine wp_load_mid 178 (.tmp 7) rfl g1 0 rfl [S 0,S 1,S 2,S 3] _ (zao (HF.out.1 0 Zb3) (HF.out.1 1 Zb3) (HF.out.1 2 Zb3) (HF.out.1 3 Zb3)) Tryz.underlying178 rfl Zb5 ?_
     clear hHeld
     refine hK.out _ _ ?_ (fun hHeld=>?_)
     ·exact⟨HN4.out,HWH.out⟩
     clear hK K
     refine Z5y ?_
     refine Tk.s 5 rfl (fun K hK=>?_)
     go_simp
     go_at_call 152
     refine (plus_to S SC p (fun i=>gmul (wh4 qa qb qc qd i) (wh4 (W k 0) 0 (W k 2) (W k 1) i)) (k * 134217728) 134217728 HAB.out HS.out HSC.out HT.out.bound HPM.out _).mono ?_
     rintro e Wc8 ⟨⟨SD,rfl,hSD⟩,hb1⟩
     have HSD:=hid hSD
     clear hSD
     refine Z73 ?_;try clear HF HZ HN4 HWH HB;clear hb1 hHeld;intro HF HZ HN4 HWH HB
     refine hK.out _ _ ?_ (fun hHeld=>?_)
     ·exact⟨HN4.out,HWH.out⟩
     clear hK K
     refine Z5y ?_
     refine Tk.s 6 rfl (fun K hK=>?_)
     refine Eq.mpr (if_pos Zb5) ?_
     refine wp_store_mid 178 _ _ rfl g1 0 #[SD 0,SD 1,SD 2,SD 3] rfl rfl HF.out.there Zb5 (oneC HSD.out) ?_
     change K _ (CFour.set4 g1 SD Wc8)
     refine Z98 ?_;try clear HF HZ HWH HN4 HB;intro HF HZ HWH HN4 HB
     clear hHeld
     generalize CFour.set4 g1 SD Wc8=We at HF HZ HWH HN4 HB ⊢
     exact Z1e
    exact AllReadyH.nil
   exact AllReadyH.nil
  ·obtain rfl:k=n:=by omega
   have HR1:=hid HZ.out
   go_wp2_with (first
    | (refine wpList_load_mid rfl 178 (.tmp 7) rfl (w.heap.size+1) 0 rfl [S 0,S 1,S 2,S 3] _ (zao (HF.out.1 0 Zb3) (HF.out.1 1 Zb3) (HF.out.1 2 Zb3) (HF.out.1 3 Zb3)) Tryz.underlying178 rfl Zb5 ?_)
    | (refine wpList_store_mid rfl 178 (.tmp 6) (.tmp 33) rfl w.heap.size 0 #[S 0,S 1,S 2,S 3] rfl rfl HZ.out.there Zb5 (oneC HS.out) ?_;change wpList _ _ _ _ _ (CFour.set4 w.heap.size S wr);have hR2:=HZ.out.set4 S;have hB2:=zcl HB.out (g:=w.heap.size) (le_refl _) S;generalize CFour.set4 w.heap.size S wr=w5 at hR2 hB2 ⊢;have d0:=hR2.1 0 Zb3;have d1:=hR2.1 1 Zb3;have d2:=hR2.1 2 Zb3;have d3:=hR2.1 3 Zb3))
   refine bodyPost_ret (Kit.zbi rfl _ _ w.heap.size 0 [S 0,S 1,S 2,S 3] _ rfl (zao d0 d1 d2 d3) Tryz.underlying178 rfl Zb5) rfl ?_
   exact⟨⟨S,p,rfl,HS.out,HT.out⟩,hB2⟩
abbrev I64v (zs:List Int):List Value:=zs.map (.int .i64)
def nums (F:Nat→Int) (n:Nat):List Int:=(List.range n).map F
theorem nums_len (F:Nat→Int) (n:Nat):(nums F n).length=n:=by simp [nums]
theorem nums_succ (F:Nat→Int) (n:Nat):nums F (n+1)=nums F n ++ [F n]:=by simp [nums,List.range_succ]
theorem nums_at (F:Nat→Int) {n i:Nat} (h:i < n):(nums F n)[i]?=some (F i):=by simp [nums,h]
theorem nums_getD (F:Nat→Int) {n i:Nat} (h:i < n):(nums F n).getD i 0=F i:=by rw [List.getD_eq_getElem?_getD,nums_at F h];rfl
def Own64 (w:World) (n:Nat) (zs:List Int) (e:Ending) (w':World):Prop :=
 ∃ v,e=.returned v∧w'.ownsRow w.heap.size 2 1 v n (I64v zs)∧Below w.heap.size w w'
theorem own_nil (w:World) (base:Nat) (e:TypeId) (size:Nat):w.ownsRow base e size (.slice none 0 0) 0 []:=⟨by simp,.inl ⟨rfl,rfl⟩⟩
theorem info_i64:(Tryz.prog.info? 2).map (fun i=>(i.zero,i.size,i.bytes))=some (some (Jj Jq 0),1,8):=by kernel_rfl
theorem info_c4:(Tryz.prog.info? 178).map (fun i=>(i.zero,i.size,i.bytes))=some (some (.agg #[z0,z0,z0,z0]),4,64):=by kernel_rfl
theorem info_parts {T:Nat} {z:Value} {a b:Nat} (h:(Tryz.prog.info? T).map (fun i=>(i.zero,i.size,i.bytes))=some (some z,a,b)):∃ i,Tryz.prog.info? T=some i∧i.zero=some z∧i.size=a∧i.bytes=b:=by
 obtain⟨i,hi,h2⟩:=Option.map_eq_some_iff.1 h
 simp only [Prod.mk.injEq] at h2
 exact⟨i,hi,h2.1,h2.2.1,h2.2.2⟩
def WF (W:Nat→Nat→Int) (k:Nat) (F:List Value):Prop :=
 F.length=k * 4∧(∀ u∈F,u.oneCell'=true)∧∀ j,j < k→∃ S:Nat→Value,(∀ i,i < 4→IsC (S i) (wh4 (W j 0) 0 (W j 2) (W j 1) i))∧∀ i,i < 4→F[j * 4+i]?=some (S i)
theorem WF.start (W:Nat→Nat→Int):WF W 0 []:=⟨rfl,by simp,fun j hj=>by omega⟩
theorem WF.step {W:Nat→Nat→Int} {k:Nat} {F:List Value} (h:WF W k F) {S:Nat→Value} (hS:∀ i,i < 4→IsC (S i) (wh4 (W k 0) 0 (W k 2) (W k 1) i)):WF W (k+1) (F ++ [S 0,S 1,S 2,S 3]):=by
 obtain⟨h1,h2,h3⟩:=h
 refine⟨by simp [h1];omega,fun u hu=>?_,fun j hj=>?_⟩
 ·rcases List.mem_append.1 hu with h | h
  ·exact h2 u h
  ·have:=oneC hS
   simp at this
   simp at h
   rcases h with rfl | rfl | rfl | rfl
   ·exact this.1
   ·exact this.2.1
   ·exact this.2.2.1
   ·exact this.2.2.2
 ·rcases Nat.lt_or_ge j k with hjk | hjk
  ·obtain⟨S',a,b⟩:=h3 j hjk
   refine⟨S',a,fun i hi=>?_⟩
   rw [List.getElem?_append_left (by rw [h1];omega)]
   exact b i hi
  ·obtain rfl:j=k:=by omega
   refine⟨S,hS,fun i hi=>?_⟩
   rw [List.getElem?_append_right (by rw [h1];omega),h1,show j * 4+i - j * 4=i by omega]
   obtain rfl | rfl | rfl | rfl:=lt4 hi <;> rfl
def WhAt (w:World) (g n:Nat) (W:Nat→Nat→Int):Prop :=
 g < w.heap.size∧∀ k,k < n→∃ S:Nat→Value,(∀ i,i < 4→IsC (S i) (wh4 (W k 0) 0 (W k 2) (W k 1) i))∧w.rangeAt g (0+k * 4) [S 0,S 1,S 2,S 3]
theorem WhAt.wheels {w:World} {g n:Nat} {W:Nat→Nat→Int} (h:WhAt w g n W):Wheels w w.heap.size (some ⟨g,0,none⟩) n W:=fun k hk=>by
 obtain⟨S,a,b⟩:=h.2 k hk
 exact⟨g,0,S,rfl,h.1,a,b⟩
theorem WhAt.of {w:World} {g n B:Nat} {W:Nat→Nat→Int} {F:List Value} (hF:WF W n F) (hr:Kit.Rd w B (some ⟨g,0,none⟩) F) (hg:g < w.heap.size):WhAt w g n W:=⟨hg,fun k hk=>by
 obtain⟨S,a,b⟩:=hF.2.2 k hk
 refine⟨S,a,fun j v hj=>?_⟩
 have hj4:j < 4:=by
  rcases Nat.lt_or_ge j 4 with h | h
  ·exact h
  ·rw [List.getElem?_eq_none (by simpa using h)] at hj;cases hj
 obtain⟨ad,e,_,hc⟩:=hr (k * 4+j) (S j) (b j hj4)
 cases e
 rw [Go.WideShapes.add_plain] at hc
 rw [show 0+k * 4+j=0+(k * 4+j) by omega,hc]
 obtain rfl | rfl | rfl | rfl:=lt4 hj4 <;> simpa using hj⟩
theorem WhAt.grown {w w':World} {g n:Nat} {W:Nat→Nat→Int} {r:Option Nat} (h:WhAt w g n W) (hg:w.grownBy w' r) (hr:r≠some g):WhAt w' g n W:=by
 refine⟨Nat.lt_of_lt_of_le h.1 hg.size,fun k hk=>?_⟩
 obtain⟨S,a,b⟩:=h.2 k hk
 refine⟨S,a,fun j v hj=>?_⟩
 exact hg.cell (b j v hj) (fun e=>hr e.symm)
theorem WhAt.below {w w':World} {B g n:Nat} {W:Nat→Nat→Int} (h:WhAt w g n W) (hb:Below B w w') (hB:g < B):WhAt w' g n W:=by
 refine⟨Nat.lt_of_lt_of_le h.1 hb.size,fun k hk=>?_⟩
 obtain⟨S,a,b⟩:=h.2 k hk
 exact⟨S,a,zcv b hb hB⟩
theorem added_short (A:Option Addr) (rows:List (List Int)) (n cA:Nat) (WA:Value) (L:Nat) (hn:rows.length=n) (h1:1≤n) (hL:∀ row∈rows,row.length=L) (hl:L < 3) (w:World) (hr:Kit.zb4 w w.heap.size .i16 A rows) :
  Calls Tryz.prog 119 #[.slice A n cA,WA] w fun e' w'=>e'=.returned (.slice none 0 0)∧w=w':=by
 obtain⟨ba,oa,Ak,m,ck,rfl,hba,hca,hm1,hm2,hm3,hrd⟩:=hr.row (i:=0) Zb3
 have hmL:m=L:=by rw [← hm1];exact hL _ (List.getElem_mem _)
 subst hmL
 have k1:(0:Int) < (n:Int):=by omega
 have k2:IntKind.i64.wrap ((m:Int) - 3)=(m:Int) - 3:=IntWalk.i64_in _ Zb3
 have k3:IntKind.i64.wrap ((m:Int) - 3+1)=(m:Int) - 3+1:=IntWalk.i64_in _ Zb3
 have k4:(m:Int) - 3+1 < 1:=by omega
 rw [Nat.add_zero] at hca
 clear hrd hm1 hm2 hL hr hn hl hm3
 go_enter Tryz.func119,Tryz.ntmps119
 go_wp2
 refine Kit.zce 0 rfl ?_
 go_wp2
 go_step3
 refine⟨rfl,?_⟩
 go_wp2
 rw [Exit.noGoto_ret]
 go_ret
 exact⟨rfl,rfl⟩
end CWheel
end
end Go.Proofs.YtchpdhhpkljdhaaGreatDoor
