/- Texts of this seat, one behind the other: Shape, FourPlus. -/
import Derived.WalkKit
import Derived.Lib.Hide
import Derived.Deep.RegionHeld3
import Derived.Test.YtkpngknbiecdiaaGreatDoorGB1
import Derived.Test.YtkpngknbiecdiaaGreatDoorGB2
import Derived.Test.YtkpngknbiecdiaaGreatDoorGB3
section
namespace Go.Proofs.YtkpngknbiecdiaaGreatDoor.CShape
open Go Go.ChangeShapes Go.WideShapes Go.ChangeAt Go.RowKit
open Plain CSat
set_option linter.unusedVariables false
theorem within_yes (n lo hi:Int) (h1:lo≤n) (h2:n≤hi) (w:World) :
  Calls Tryz.prog 100 #[.int .i64 n,.int .i64 lo,.int .i64 hi] w fun e w'=>e=.returned (.bool true)∧w=w':=by
 go_enter Tryz.func100,Tryz.ntmps100
 go_wp2
 go_ret
 exact⟨rfl,rfl⟩
theorem within_no (n lo hi:Int) (h:n < lo∨hi < n) (w:World) :
  Calls Tryz.prog 100 #[.int .i64 n,.int .i64 lo,.int .i64 hi] w fun e w'=>e=.returned (.bool false)∧w=w':=by
 by_cases h1:n < lo
 ·have hd:decide (n ≥ lo)=false:=by simp;omega
  go_enter Tryz.func100,Tryz.ntmps100
  go_wp2
  go_ret
  exact⟨rfl,rfl⟩
 ·have h2:hi < n:=by omega
  have hd:decide (n≤hi)=false:=by simp;omega
  go_enter Tryz.func100,Tryz.ntmps100
  go_wp2
  go_ret
  exact⟨rfl,rfl⟩
theorem times_in (a b c:Int) (ha1 : -9223372036854775808≤a) (ha2:a≤9223372036854775807) (hb1 : -9223372036854775808≤b) (hb2:b≤9223372036854775807) (hc:a * b=c) (hc1 : -9223372036854775808≤c) (hc2:c≤9223372036854775807) (w:World) :
  Calls Tryz.prog 136 #[.int .i64 a,.int .i64 b] w fun e w'=>e=.returned (.tuple #[.int .i64 c,.bool true])∧w=w':=by
 subst hc
 have h:=times a b ha1 ha2 hb1 hb2 w
 rw [fitZ_yes hc1 hc2,fits_yes hc1 hc2] at h
 exact h
theorem product (a b c p q:Int) (ha1:1≤a) (ha2:a≤16) (hb1:1≤b) (hb2:b≤16) (hc1:1≤c) (hc2:c≤1024) (hp:a * b=p) (hq:p * c=q) (w:World) :
  Calls Tryz.prog 101 #[.agg #[.int .i64 a,.int .i64 b,.int .i64 c]] w fun e w'=>e=.returned (.tuple #[.int .i64 q,.bool true])∧Below w.heap.size w w':=by
 have hp1:1≤p:=hp ▸ Int.mul_le_mul ha1 hb1 (by omega) (by omega)
 have hp2:p≤256:=hp ▸ Int.mul_le_mul ha2 hb2 (by omega) (by omega)
 have hq1:1≤q:=hq ▸ Int.mul_le_mul hp1 hc1 (by omega) (by omega)
 have hq2:q≤262144:=hq ▸ Int.mul_le_mul hp2 hc2 (by omega) (by omega)
 have HP:=Lib.hid hp
 have HQ:=Lib.hid hq
 clear hp hq
 go_enter Tryz.func101,Tryz.ntmps101
 go_wp2
 go_loop [4,5,6,7] (fun n ok i t=>(n=.int .i64 1∧t=.int .i64 0)∨(n=.int .i64 a∧t=.int .i64 1)∨(n=.int .i64 p∧t=.int .i64 2)∨(n=.int .i64 q∧t=.int .i64 3)) (fun _ _ _ t=>3 - (intOf t).toNat)
 case atStart=>exact .inl ⟨rfl,rfl⟩
 case round =>
  rcases hrel with ⟨rfl,rfl⟩ | ⟨rfl,rfl⟩ | ⟨rfl,rfl⟩ | ⟨rfl,rfl⟩
  ·go_wp2_with (go_at_call 136;refine (times_in _ _ a (by omega) (by omega) (by omega) (by omega) (by omega) (by omega) (by omega) _).mono ?_;rintro e w' ⟨rfl,rfl⟩)
   go_round
   case rel=>exact .inr (.inl ⟨rfl,rfl⟩)
   case measure=>simp [intOf]
  ·go_wp2_with (go_at_call 136;refine (times_in _ _ p (by omega) (by omega) (by omega) (by omega) HP.out (by omega) (by omega) _).mono ?_;rintro e w' ⟨rfl,rfl⟩)
   go_round
   case rel=>exact .inr (.inr (.inl ⟨rfl,rfl⟩))
   case measure=>simp [intOf]
  ·go_wp2_with (go_at_call 136;refine (times_in _ _ q (by omega) (by omega) (by omega) (by omega) HQ.out (by omega) (by omega) _).mono ?_;rintro e w' ⟨rfl,rfl⟩)
   go_round
   case rel=>exact .inr (.inr (.inr ⟨rfl,rfl⟩))
   case measure=>simp [intOf]
  ·go_wp2
   go_ret2
   exact⟨rfl,(Below.refl _ _).alloc (Nat.le_refl _) _⟩
def shapeB (h w c:Int):Bool:=decide (1≤h∧h≤16∧1≤w∧w≤16∧1≤c∧c≤1024∧h * w * c≤1024)
def elemsZ (h w c:Int):Int:=if shapeB h w c then h * w * c else 0
theorem prod_bd {h w c:Int} (h1:1≤h) (h2:h≤16) (h3:1≤w) (h4:w≤16) (h5:1≤c) (h6:c≤1024):1≤h * w * c∧h * w * c≤262144:=by
 have a1:1≤h * w:=Int.mul_le_mul h1 h3 (by omega) (by omega)
 have a2:h * w≤256:=Int.mul_le_mul h2 h4 (by omega) (by omega)
 exact⟨Int.mul_le_mul a1 h5 (by omega) (by omega),Int.mul_le_mul a2 h6 (by omega) (by omega)⟩
theorem shapeB_yes {h w c:Int} (hs:shapeB h w c=true):1≤h∧h≤16∧1≤w∧w≤16∧1≤c∧c≤1024∧h * w * c≤1024:=by simpa [shapeB] using hs
theorem elemsZ_yes {h w c:Int} (hs:shapeB h w c=true):elemsZ h w c=h * w * c:=by unfold elemsZ;rw [if_pos hs]
theorem elemsZ_no {h w c:Int} (hs:shapeB h w c=false):elemsZ h w c=0:=by unfold elemsZ;rw [if_neg (by simp [hs])]
theorem elemsZ_bd (h w c:Int):0≤elemsZ h w c∧elemsZ h w c≤1024:=by
 unfold elemsZ
 split
 ·rename_i hs
  obtain⟨a1,a2,a3,a4,a5,a6,a7⟩:=shapeB_yes hs
  have:=prod_bd a1 a2 a3 a4 a5 a6
  omega
 ·omega
theorem elemsZ_pos (h w c:Int):decide (elemsZ h w c > 0)=shapeB h w c:=by
 cases hs:shapeB h w c
 ·rw [elemsZ_no hs];rfl
 ·obtain⟨a1,a2,a3,a4,a5,a6,a7⟩:=shapeB_yes hs
  rw [elemsZ_yes hs]
  have:=prod_bd a1 a2 a3 a4 a5 a6
  simp;omega
theorem elems_yes (h w c n:Int) (h1:1≤h) (h2:h≤16) (h3:1≤w) (h4:w≤16) (h5:1≤c) (h6:c≤1024) (hn:h * w * c=n) (hn1:n≤1024) (W:World) :
  Calls Tryz.prog 52 #[.agg #[.int .i64 h,.int .i64 w,.int .i64 c]] W fun e w'=>e=.returned (.int .i64 n)∧Below W.heap.size W w':=by
 have hb:=prod_bd h1 h2 h3 h4 h5 h6
 rw [hn] at hb
 obtain⟨b1,b2⟩:=hb
 have HN:=Lib.hid hn
 clear hn
 go_enter Tryz.func52,Tryz.ntmps52
 go_wp2_with (first
   | (go_at_call 100;refine (within_yes _ _ _ (by omega) (by omega) _).mono ?_;rintro e w' ⟨rfl,rfl⟩)
   | (go_at_call 101;refine (product h w c _ n h1 h2 h3 h4 h5 h6 rfl HN.out _).mono ?_;rintro e w1 ⟨rfl,hb⟩))
 go_ret
 exact⟨rfl,((Below.refl _ _).alloc (Nat.le_refl _) _).trans (hb.mono (by simp))⟩
theorem elems_many (h w c n:Int) (h1:1≤h) (h2:h≤16) (h3:1≤w) (h4:w≤16) (h5:1≤c) (h6:c≤1024) (hn:h * w * c=n) (hn1:1024 < n) (W:World) :
  Calls Tryz.prog 52 #[.agg #[.int .i64 h,.int .i64 w,.int .i64 c]] W fun e w'=>e=.returned (.int .i64 0)∧Below W.heap.size W w':=by
 have hb:=prod_bd h1 h2 h3 h4 h5 h6
 rw [hn] at hb
 obtain⟨b1,b2⟩:=hb
 have HN:=Lib.hid hn
 clear hn
 go_enter Tryz.func52,Tryz.ntmps52
 go_wp2_with (first
   | (go_at_call 100;refine (within_yes _ _ _ (by omega) (by omega) _).mono ?_;rintro e w' ⟨rfl,rfl⟩)
   | (go_at_call 101;refine (product h w c _ n h1 h2 h3 h4 h5 h6 rfl HN.out _).mono ?_;rintro e w1 ⟨rfl,hb⟩))
 go_ret
 exact⟨rfl,((Below.refl _ _).alloc (Nat.le_refl _) _).trans (hb.mono (by simp))⟩
theorem elems_out (h w c:Int) (hw:(h < 1∨16 < h)∨(1≤h∧h≤16∧(w < 1∨16 < w))∨(1≤h∧h≤16∧1≤w∧w≤16∧(c < 1∨1024 < c))) (W:World) :
  Calls Tryz.prog 52 #[.agg #[.int .i64 h,.int .i64 w,.int .i64 c]] W fun e w'=>e=.returned (.int .i64 0)∧Below W.heap.size W w':=by
 rcases hw with h1 | ⟨h1,h2,h3⟩ | ⟨h1,h2,h3,h4,h5⟩
 all_goals
  go_enter Tryz.func52,Tryz.ntmps52
  go_wp2_with (first
   | (go_at_call 100;refine (within_yes _ _ _ (by omega) (by omega) _).mono ?_;rintro e w' ⟨rfl,rfl⟩)
   | (go_at_call 100;refine (within_no _ _ _ (by omega) _).mono ?_;rintro e w' ⟨rfl,rfl⟩))
  go_ret
  exact⟨rfl,(Below.refl _ _).alloc (Nat.le_refl _) _⟩
theorem elems_to (h w c n:Int) (hn:elemsZ h w c=n) (W:World) :
  Calls Tryz.prog 52 #[.agg #[.int .i64 h,.int .i64 w,.int .i64 c]] W fun e w'=>e=.returned (.int .i64 n)∧Below W.heap.size W w':=by
 cases hs:shapeB h w c
 ·rw [elemsZ_no hs] at hn
  subst hn
  by_cases hi:1≤h∧h≤16∧1≤w∧w≤16∧1≤c∧c≤1024
  ·obtain⟨a1,a2,a3,a4,a5,a6⟩:=hi
   exact elems_many h w c _ a1 a2 a3 a4 a5 a6 rfl (by simp [shapeB] at hs;omega) W
  ·exact elems_out h w c (by omega) W
 ·obtain⟨a1,a2,a3,a4,a5,a6,a7⟩:=shapeB_yes hs
  rw [elemsZ_yes hs] at hn
  exact elems_yes h w c n a1 a2 a3 a4 a5 a6 hn (hn ▸ a7) W
theorem right_to (h w c:Int) (b:Bool) (hb:shapeB h w c=b) (W:World) :
  Calls Tryz.prog 51 #[.agg #[.int .i64 h,.int .i64 w,.int .i64 c]] W fun e w'=>e=.returned (.bool b)∧Below W.heap.size W w':=by
 obtain⟨n,hn⟩:∃ n,elemsZ h w c=n:=⟨_,rfl⟩
 have hd:decide (n > 0)=b:=by rw [← hn,elemsZ_pos,hb]
 have HN:=Lib.hid hn
 clear hn
 go_enter Tryz.func51,Tryz.ntmps51
 go_wp2_with (go_at_call 52;refine (elems_to _ _ _ n HN.out _).mono ?_;rintro e w1 ⟨rfl,hb⟩)
 go_ret
 exact⟨rfl,((Below.refl _ _).alloc (Nat.le_refl _) _).trans (hb.mono (by simp))⟩
def inB (H W C h w c:Int):Bool:=shapeB H W C && decide (0≤h∧h < H∧0≤w∧w < W∧0≤c∧c < C)
theorem at_bd {H W C h w c:Int} (hs:shapeB H W C=true) (h1:0≤h) (h2:h < H) (w1:0≤w) (w2:w < W) (c1:0≤c) (c2:c < C) :
  0≤h * W∧h * W≤256∧0≤(h * W+w) * C∧(h * W+w) * C+c < H * W * C∧H * W * C≤1024:=by
 obtain⟨a1,a2,a3,a4,a5,a6,a7⟩:=shapeB_yes hs
 have b1:0≤h * W:=Int.mul_nonneg h1 (by omega)
 have b2:h * W≤15 * 16:=Int.mul_le_mul (by omega) a4 (by omega) (by omega)
 have b3:0≤(h * W+w) * C:=Int.mul_nonneg (by omega) (by omega)
 have b4:(h+1) * W≤H * W:=Int.mul_le_mul_of_nonneg_right (by omega) (by omega)
 have b5:h * W+w+1≤H * W:=by rw [Int.add_mul,Int.one_mul] at b4;omega
 have b6:(h * W+w+1) * C≤H * W * C:=Int.mul_le_mul_of_nonneg_right b5 (by omega)
 rw [Int.add_mul,Int.one_mul] at b6
 omega
theorem index_yes (H W C h w c p:Int) (hs:shapeB H W C=true) (h1:0≤h) (h2:h < H) (w1:0≤w) (w2:w < W) (c1:0≤c) (c2:c < C) (hp:(h * W+w) * C+c=p) (wd:World) :
  Calls Tryz.prog 133 #[.agg #[.int .i64 H,.int .i64 W,.int .i64 C],.int .i64 h,.int .i64 w,.int .i64 c] wd fun e w'=>e=.returned (.tuple #[.int .i64 p,.bool true])∧Below wd.heap.size wd w':=by
 obtain⟨b1,b2,b3,b4,b5⟩:=at_bd hs h1 h2 w1 w2 c1 c2
 obtain⟨a1,a2,a3,a4,a5,a6,a7⟩:=shapeB_yes hs
 have b6:(h * W+w) * C+c < 1024:=by omega
 subst hp
 have HS:=Lib.hid hs
 clear hs b4 b5 a7
 go_enter Tryz.func133,Tryz.ntmps133
 go_wp2_with (first
   | (go_at_call 100;refine (within_yes _ _ _ (by omega) (by omega) _).mono ?_;rintro e w' ⟨rfl,rfl⟩)
   | (go_at_call 51;refine (right_to _ _ _ _ HS.out _).mono ?_;rintro e w1 ⟨rfl,hb⟩;obtain⟨hc,hf⟩:=Kit.bcell hb))
 go_ret2
 exact⟨rfl,((Below.refl _ _).alloc (Nat.le_refl _) _).trans (hb.mono (by simp))⟩
theorem index_no (H W C h w c:Int) (hs:inB H W C h w c=false) (wd:World) :
  Calls Tryz.prog 133 #[.agg #[.int .i64 H,.int .i64 W,.int .i64 C],.int .i64 h,.int .i64 w,.int .i64 c] wd fun e w'=>e=.returned (.tuple #[.int .i64 0,.bool false])∧Below wd.heap.size wd w':=by
 cases hr:shapeB H W C
 ·have HS:=Lib.hid hr
  clear hs hr
  go_enter Tryz.func133,Tryz.ntmps133
  go_wp2_with (go_at_call 51;refine (right_to _ _ _ _ HS.out _).mono ?_;rintro e w1 ⟨rfl,hb⟩;obtain⟨hc,hf⟩:=Kit.bcell hb)
  go_ret2
  exact⟨rfl,((Below.refl _ _).alloc (Nat.le_refl _) _).trans (hb.mono (by simp))⟩
 ·have h0:(h < 0∨H - 1 < h)∨(0≤h∧h≤H - 1∧(w < 0∨W - 1 < w))∨(0≤h∧h≤H - 1∧0≤w∧w≤W - 1∧(c < 0∨C - 1 < c)):=by
   simp [inB,hr] at hs;omega
  obtain⟨a1,a2,a3,a4,a5,a6,a7⟩:=shapeB_yes hr
  have HS:=Lib.hid hr
  clear hs hr a7
  rcases h0 with h1 | ⟨h1,h2,h3⟩ | ⟨h1,h2,h3,h4,h5⟩
  all_goals
   go_enter Tryz.func133,Tryz.ntmps133
   go_wp2_with (first
    | (go_at_call 100;refine (within_yes _ _ _ (by omega) (by omega) _).mono ?_;rintro e w' ⟨rfl,rfl⟩)
    | (go_at_call 100;refine (within_no _ _ _ (by omega) _).mono ?_;rintro e w' ⟨rfl,rfl⟩)
    | (go_at_call 51;refine (right_to _ _ _ _ HS.out _).mono ?_;rintro e w1 ⟨rfl,hb⟩;obtain⟨hc,hf⟩:=Kit.bcell hb))
   go_ret2
   exact⟨rfl,((Below.refl _ _).alloc (Nat.le_refl _) _).trans (hb.mono (by simp))⟩
end Go.Proofs.YtkpngknbiecdiaaGreatDoor.CShape
end
section
namespace Go.Proofs.YtkpngknbiecdiaaGreatDoor.CFour
open Go Go.ChangeShapes Go.WideShapes Go.ChangeAt Go.RowKit
open FloatNum
set_option linter.unusedVariables false
set_option maxHeartbeats 4000000 in
theorem plus_to (X Y:Nat→Value) (p q:Nat→G) (A B:Nat) (hAB:A+B < 2 ^ 53) (hX:∀ i,i < 4→IsC (X i) (p i)) (hY:∀ i,i < 4→IsC (Y i) (q i)) (hp:∀ i,Bd A (p i)) (hq:∀ i,Bd B (q i)) (w:World) :
  Calls Tryz.prog 155 #[agg4 X,agg4 Y] w fun e' w'=>(∃ S,e'=.returned (agg4 S)∧∀ i,i < 4→IsC (S i) (gadd (p i) (q i)))∧Below w.heap.size w w':=by
 have HX:=Lib.hid hX
 have HY:=Lib.hid hY
 have HP:=Lib.hid hp
 have HQ:=Lib.hid hq
 have HAB:=Lib.hid hAB
 clear hX hY hp hq hAB
 go_enter Tryz.func155,Tryz.ntmps155
 go_wp2_with fail
 go_loopw [7] (fun u wr=>∃ (k:Nat) (S:Nat→Value),k≤4∧u=.int .i64 k∧Hid (FillR (fun i=>gadd (p i) (q i)) k S)∧Hid (Four (w.heap.size+1+1+1) S wr)∧Hid (Four (w.heap.size+1+1) (fun _=>z0) wr)∧Hid (Four w.heap.size X wr)∧Hid (Four (w.heap.size+1) Y wr)∧Hid (Below w.heap.size w wr)) (fun u _=>4 - (intOf u).toNat)
 case atStart =>
  have h0:=(Four.box w X 179).below ((((Below.refl _ _).alloc (Nat.le_refl _) (.cells #[Y 0,Y 1,Y 2,Y 3] 179)).alloc (by simp) (.cells #[z0,z0,z0,z0] 179)).alloc (by simp) (.cells #[z0,z0,z0,z0] 179)) (by simp)
  have h1:=(Four.box (w.alloc (.cells #[X 0,X 1,X 2,X 3] 179)) Y 179).below (((Below.refl _ _).alloc (Nat.le_refl _) (.cells #[z0,z0,z0,z0] 179)).alloc (by simp) (.cells #[z0,z0,z0,z0] 179)) (by simp)
  have h2:=(Four.new ((w.alloc (.cells #[X 0,X 1,X 2,X 3] 179)).alloc (.cells #[Y 0,Y 1,Y 2,Y 3] 179)) z0 179).below ((Below.refl _ _).alloc (Nat.le_refl _) (.cells #[z0,z0,z0,z0] 179)) (by simp)
  have h3:=Four.new (((w.alloc (.cells #[X 0,X 1,X 2,X 3] 179)).alloc (.cells #[Y 0,Y 1,Y 2,Y 3] 179)).alloc (.cells #[z0,z0,z0,z0] 179)) z0 179
  have e1:(w.alloc (.cells #[X 0,X 1,X 2,X 3] 179)).heap.size=w.heap.size+1:=by simp
  have e2:((w.alloc (.cells #[X 0,X 1,X 2,X 3] 179)).alloc (.cells #[Y 0,Y 1,Y 2,Y 3] 179)).heap.size=w.heap.size+1+1:=by simp
  have e3:(((w.alloc (.cells #[X 0,X 1,X 2,X 3] 179)).alloc (.cells #[Y 0,Y 1,Y 2,Y 3] 179)).alloc (.cells #[z0,z0,z0,z0] 179)).heap.size=w.heap.size+1+1+1:=by simp
  rw [e1] at h1
  rw [e2] at h2
  rw [e3] at h3
  exact⟨0,fun _=>z0,by omega,rfl,Lib.hid (FillR.start _),Lib.hid h3,Lib.hid h2,Lib.hid h0,Lib.hid h1,Lib.hid (((((Below.refl _ _).alloc (Nat.le_refl _) _).alloc (by simp) _).alloc (by simp;omega) _).alloc (by simp;omega) _)⟩
 case round =>
  obtain⟨k,S,hk,rfl,hS,hF,hR,hU,hV,hBw⟩:=hrel
  by_cases hlt:k < 4
  ·obtain⟨x,hx1,hx2⟩:=IsC.add (P:=Tryz.prog) (HX.out k hlt) (HY.out k hlt) (HP.out k) (HQ.out k) HAB.out
   have HT:=Lib.hid (hS.out.step hx2)
   have HG:=Lib.hid (hF.out.set hlt x)
   have HR1:=Lib.hid (hR.out.other (g':=w.heap.size+1+1+1) (k:=k) x (by omega))
   have HU1:=Lib.hid (hU.out.other (g':=w.heap.size+1+1+1) (k:=k) x (by omega))
   have HV1:=Lib.hid (hV.out.other (g':=w.heap.size+1+1+1) (k:=k) x (by omega))
   have HB1:=Lib.hid (hBw.out.setCell (p:=⟨w.heap.size+1+1+1,k,none⟩) (by show w.heap.size≤w.heap.size+1+1+1;omega) x)
   obtain⟨xa,xb,rfl, -⟩:=hx2
   have hst:=st_c xa xb
   have c0:=hU.out.1 0 (by omega)
   have c1:=hU.out.1 1 (by omega)
   have c2:=hU.out.1 2 (by omega)
   have c3:=hU.out.1 3 (by omega)
   have d0:=hV.out.1 0 (by omega)
   have d1:=hV.out.1 1 (by omega)
   have d2:=hV.out.1 2 (by omega)
   have d3:=hV.out.1 3 (by omega)
   have e0:=hF.out.1 0 (by omega)
   have e1:=hF.out.1 1 (by omega)
   have e2:=hF.out.1 2 (by omega)
   have e3:=hF.out.1 3 (by omega)
   have f0:=hF.out.2.1 0 (by omega)
   have f1:=hF.out.2.1 1 (by omega)
   have f2:=hF.out.2.1 2 (by omega)
   have f3:=hF.out.2.1 3 (by omega)
   obtain rfl | rfl | rfl | rfl:=lt4 hlt
   all_goals go_wp2
   ·go_region_held3 (fun W=>W.cell? ⟨w.heap.size,0,none⟩=some (X 0)∧W.cell? ⟨w.heap.size+1,0,none⟩=some (Y 0)) (first | exact⟨HU1.out.1 0 (by omega),HV1.out.1 0 (by omega)⟩ | (go_keep;done)) (fail)
    go_wp2
    go_roundw
    case rel=>exact⟨_,_,by omega,by go_num,HT,Lib.hid HG.out.drew,Lib.hid HR1.out.drew,Lib.hid HU1.out.drew,Lib.hid HV1.out.drew,Lib.hid HB1.out.drew⟩
    case measure=>simp [intOf]
   ·go_region_held3 (fun W=>W.cell? ⟨w.heap.size,1,none⟩=some (X 1)∧W.cell? ⟨w.heap.size+1,1,none⟩=some (Y 1)) (first | exact⟨HU1.out.1 1 (by omega),HV1.out.1 1 (by omega)⟩ | (go_keep;done)) (fail)
    go_wp2
    go_roundw
    case rel=>exact⟨_,_,by omega,by go_num,HT,Lib.hid HG.out.drew,Lib.hid HR1.out.drew,Lib.hid HU1.out.drew,Lib.hid HV1.out.drew,Lib.hid HB1.out.drew⟩
    case measure=>simp [intOf]
   ·go_region_held3 (fun W=>W.cell? ⟨w.heap.size,2,none⟩=some (X 2)∧W.cell? ⟨w.heap.size+1,2,none⟩=some (Y 2)) (first | exact⟨HU1.out.1 2 (by omega),HV1.out.1 2 (by omega)⟩ | (go_keep;done)) (fail)
    go_wp2
    go_roundw
    case rel=>exact⟨_,_,by omega,by go_num,HT,Lib.hid HG.out.drew,Lib.hid HR1.out.drew,Lib.hid HU1.out.drew,Lib.hid HV1.out.drew,Lib.hid HB1.out.drew⟩
    case measure=>simp [intOf]
   ·go_region_held3 (fun W=>W.cell? ⟨w.heap.size,3,none⟩=some (X 3)∧W.cell? ⟨w.heap.size+1,3,none⟩=some (Y 3)) (first | exact⟨HU1.out.1 3 (by omega),HV1.out.1 3 (by omega)⟩ | (go_keep;done)) (fail)
    go_wp2
    go_roundw
    case rel=>exact⟨_,_,by omega,by go_num,HT,Lib.hid HG.out.drew,Lib.hid HR1.out.drew,Lib.hid HU1.out.drew,Lib.hid HV1.out.drew,Lib.hid HB1.out.drew⟩
    case measure=>simp [intOf]
  ·have hk4:k=4:=by omega
   subst hk4
   have hAll:∀ i,i < 4→IsC (S i) (gadd (p i) (q i)):=fun i (hi:i < 4)=>hS.out.all (i:=i) hi
   have c0:=hF.out.1 0 (by omega)
   have c1:=hF.out.1 1 (by omega)
   have c2:=hF.out.1 2 (by omega)
   have c3:=hF.out.1 3 (by omega)
   have d0:=hR.out.1 0 (by omega)
   have d1:=hR.out.1 1 (by omega)
   have d2:=hR.out.1 2 (by omega)
   have d3:=hR.out.1 3 (by omega)
   have f0:=hR.out.2.1 0 (by omega)
   have f1:=hR.out.2.1 1 (by omega)
   have f2:=hR.out.2.1 2 (by omega)
   have f3:=hR.out.2.1 3 (by omega)
   clear hlt hk
   obtain⟨a0,b0,s0, -⟩:=hAll (0:Nat) (by omega)
   obtain⟨a1,b1,s1, -⟩:=hAll (1:Nat) (by omega)
   obtain⟨a2,b2,s2, -⟩:=hAll (2:Nat) (by omega)
   obtain⟨a3,b3,s3, -⟩:=hAll (3:Nat) (by omega)
   have t0:=st_c a0 b0
   have t1:=st_c a1 b1
   have t2:=st_c a2 b2
   have t3:=st_c a3 b3
   have HA:=Lib.hid hAll
   clear hAll
   have HS0:=Lib.hid s0
   have HS1:=Lib.hid s1
   have HS2:=Lib.hid s2
   have HS3:=Lib.hid s3
   go_wp2
   refine bodyPost_ret (Kit.results_c rfl _ _ (w.heap.size+1+1) 0 [.complex .f64 a0 b0,.complex .f64 a1 b1,.complex .f64 a2 b2,.complex .f64 a3 b3] _ rfl (range_4 (by go_cell) (by go_cell) (by go_cell) (by go_cell)) Tryz.underlying179 rfl (by kernel_rfl)) rfl ?_
   refine⟨⟨S,?_,HA.out⟩,?_⟩
   ·unfold agg4
    rw [HS0.out,HS1.out,HS2.out,HS3.out]
   ·have:=hBw.out
    go_grown
set_option maxHeartbeats 4000000 in
theorem times_to (X Y:Nat→Value) (p q:Nat→G) (A B:Nat) (hA:A < 2 ^ 53) (hB:B < 2 ^ 53) (hAB:A * B+A * B < 2 ^ 53) (hX:∀ i,i < 4→IsC (X i) (p i)) (hY:∀ i,i < 4→IsC (Y i) (q i)) (hp:∀ i,Bd A (p i)) (hq:∀ i,Bd B (q i)) (w:World) :
  Calls Tryz.prog 156 #[agg4 X,agg4 Y] w fun e' w'=>(∃ S,e'=.returned (agg4 S)∧∀ i,i < 4→IsC (S i) (gmul (p i) (q i)))∧Below w.heap.size w w':=by
 have HX:=Lib.hid hX
 have HY:=Lib.hid hY
 have HP:=Lib.hid hp
 have HQ:=Lib.hid hq
 have HAB:=Lib.hid hAB
 clear hX hY hp hq hAB
 go_enter Tryz.func156,Tryz.ntmps156
 go_wp2_with fail
 go_loopw [7] (fun u wr=>∃ (k:Nat) (S:Nat→Value),k≤4∧u=.int .i64 k∧Hid (FillR (fun i=>gmul (p i) (q i)) k S)∧Hid (Four (w.heap.size+1+1+1) S wr)∧Hid (Four (w.heap.size+1+1) (fun _=>z0) wr)∧Hid (Four w.heap.size X wr)∧Hid (Four (w.heap.size+1) Y wr)∧Hid (Below w.heap.size w wr)) (fun u _=>4 - (intOf u).toNat)
 case atStart =>
  have h0:=(Four.box w X 179).below ((((Below.refl _ _).alloc (Nat.le_refl _) (.cells #[Y 0,Y 1,Y 2,Y 3] 179)).alloc (by simp) (.cells #[z0,z0,z0,z0] 179)).alloc (by simp) (.cells #[z0,z0,z0,z0] 179)) (by simp)
  have h1:=(Four.box (w.alloc (.cells #[X 0,X 1,X 2,X 3] 179)) Y 179).below (((Below.refl _ _).alloc (Nat.le_refl _) (.cells #[z0,z0,z0,z0] 179)).alloc (by simp) (.cells #[z0,z0,z0,z0] 179)) (by simp)
  have h2:=(Four.new ((w.alloc (.cells #[X 0,X 1,X 2,X 3] 179)).alloc (.cells #[Y 0,Y 1,Y 2,Y 3] 179)) z0 179).below ((Below.refl _ _).alloc (Nat.le_refl _) (.cells #[z0,z0,z0,z0] 179)) (by simp)
  have h3:=Four.new (((w.alloc (.cells #[X 0,X 1,X 2,X 3] 179)).alloc (.cells #[Y 0,Y 1,Y 2,Y 3] 179)).alloc (.cells #[z0,z0,z0,z0] 179)) z0 179
  have e1:(w.alloc (.cells #[X 0,X 1,X 2,X 3] 179)).heap.size=w.heap.size+1:=by simp
  have e2:((w.alloc (.cells #[X 0,X 1,X 2,X 3] 179)).alloc (.cells #[Y 0,Y 1,Y 2,Y 3] 179)).heap.size=w.heap.size+1+1:=by simp
  have e3:(((w.alloc (.cells #[X 0,X 1,X 2,X 3] 179)).alloc (.cells #[Y 0,Y 1,Y 2,Y 3] 179)).alloc (.cells #[z0,z0,z0,z0] 179)).heap.size=w.heap.size+1+1+1:=by simp
  rw [e1] at h1
  rw [e2] at h2
  rw [e3] at h3
  exact⟨0,fun _=>z0,by omega,rfl,Lib.hid (FillR.start _),Lib.hid h3,Lib.hid h2,Lib.hid h0,Lib.hid h1,Lib.hid (((((Below.refl _ _).alloc (Nat.le_refl _) _).alloc (by simp) _).alloc (by simp;omega) _).alloc (by simp;omega) _)⟩
 case round =>
  obtain⟨k,S,hk,rfl,hS,hF,hR,hU,hV,hBw⟩:=hrel
  by_cases hlt:k < 4
  ·obtain⟨x,hx1,hx2⟩:=IsC.mul (P:=Tryz.prog) (HX.out k hlt) (HY.out k hlt) (HP.out k) (HQ.out k) hA hB HAB.out
   have HT:=Lib.hid (hS.out.step hx2)
   have HG:=Lib.hid (hF.out.set hlt x)
   have HR1:=Lib.hid (hR.out.other (g':=w.heap.size+1+1+1) (k:=k) x (by omega))
   have HU1:=Lib.hid (hU.out.other (g':=w.heap.size+1+1+1) (k:=k) x (by omega))
   have HV1:=Lib.hid (hV.out.other (g':=w.heap.size+1+1+1) (k:=k) x (by omega))
   have HB1:=Lib.hid (hBw.out.setCell (p:=⟨w.heap.size+1+1+1,k,none⟩) (by show w.heap.size≤w.heap.size+1+1+1;omega) x)
   obtain⟨xa,xb,rfl, -⟩:=hx2
   have hst:=st_c xa xb
   have c0:=hU.out.1 0 (by omega)
   have c1:=hU.out.1 1 (by omega)
   have c2:=hU.out.1 2 (by omega)
   have c3:=hU.out.1 3 (by omega)
   have d0:=hV.out.1 0 (by omega)
   have d1:=hV.out.1 1 (by omega)
   have d2:=hV.out.1 2 (by omega)
   have d3:=hV.out.1 3 (by omega)
   have e0:=hF.out.1 0 (by omega)
   have e1:=hF.out.1 1 (by omega)
   have e2:=hF.out.1 2 (by omega)
   have e3:=hF.out.1 3 (by omega)
   have f0:=hF.out.2.1 0 (by omega)
   have f1:=hF.out.2.1 1 (by omega)
   have f2:=hF.out.2.1 2 (by omega)
   have f3:=hF.out.2.1 3 (by omega)
   obtain rfl | rfl | rfl | rfl:=lt4 hlt
   all_goals go_wp2
   ·go_region_held3 (fun W=>W.cell? ⟨w.heap.size,0,none⟩=some (X 0)∧W.cell? ⟨w.heap.size+1,0,none⟩=some (Y 0)) (first | exact⟨HU1.out.1 0 (by omega),HV1.out.1 0 (by omega)⟩ | (go_keep;done)) (fail)
    go_wp2
    go_roundw
    case rel=>exact⟨_,_,by omega,by go_num,HT,Lib.hid HG.out.drew,Lib.hid HR1.out.drew,Lib.hid HU1.out.drew,Lib.hid HV1.out.drew,Lib.hid HB1.out.drew⟩
    case measure=>simp [intOf]
   ·go_region_held3 (fun W=>W.cell? ⟨w.heap.size,1,none⟩=some (X 1)∧W.cell? ⟨w.heap.size+1,1,none⟩=some (Y 1)) (first | exact⟨HU1.out.1 1 (by omega),HV1.out.1 1 (by omega)⟩ | (go_keep;done)) (fail)
    go_wp2
    go_roundw
    case rel=>exact⟨_,_,by omega,by go_num,HT,Lib.hid HG.out.drew,Lib.hid HR1.out.drew,Lib.hid HU1.out.drew,Lib.hid HV1.out.drew,Lib.hid HB1.out.drew⟩
    case measure=>simp [intOf]
   ·go_region_held3 (fun W=>W.cell? ⟨w.heap.size,2,none⟩=some (X 2)∧W.cell? ⟨w.heap.size+1,2,none⟩=some (Y 2)) (first | exact⟨HU1.out.1 2 (by omega),HV1.out.1 2 (by omega)⟩ | (go_keep;done)) (fail)
    go_wp2
    go_roundw
    case rel=>exact⟨_,_,by omega,by go_num,HT,Lib.hid HG.out.drew,Lib.hid HR1.out.drew,Lib.hid HU1.out.drew,Lib.hid HV1.out.drew,Lib.hid HB1.out.drew⟩
    case measure=>simp [intOf]
   ·go_region_held3 (fun W=>W.cell? ⟨w.heap.size,3,none⟩=some (X 3)∧W.cell? ⟨w.heap.size+1,3,none⟩=some (Y 3)) (first | exact⟨HU1.out.1 3 (by omega),HV1.out.1 3 (by omega)⟩ | (go_keep;done)) (fail)
    go_wp2
    go_roundw
    case rel=>exact⟨_,_,by omega,by go_num,HT,Lib.hid HG.out.drew,Lib.hid HR1.out.drew,Lib.hid HU1.out.drew,Lib.hid HV1.out.drew,Lib.hid HB1.out.drew⟩
    case measure=>simp [intOf]
  ·have hk4:k=4:=by omega
   subst hk4
   have hAll:∀ i,i < 4→IsC (S i) (gmul (p i) (q i)):=fun i (hi:i < 4)=>hS.out.all (i:=i) hi
   have c0:=hF.out.1 0 (by omega)
   have c1:=hF.out.1 1 (by omega)
   have c2:=hF.out.1 2 (by omega)
   have c3:=hF.out.1 3 (by omega)
   have d0:=hR.out.1 0 (by omega)
   have d1:=hR.out.1 1 (by omega)
   have d2:=hR.out.1 2 (by omega)
   have d3:=hR.out.1 3 (by omega)
   have f0:=hR.out.2.1 0 (by omega)
   have f1:=hR.out.2.1 1 (by omega)
   have f2:=hR.out.2.1 2 (by omega)
   have f3:=hR.out.2.1 3 (by omega)
   clear hlt hk
   obtain⟨a0,b0,s0, -⟩:=hAll (0:Nat) (by omega)
   obtain⟨a1,b1,s1, -⟩:=hAll (1:Nat) (by omega)
   obtain⟨a2,b2,s2, -⟩:=hAll (2:Nat) (by omega)
   obtain⟨a3,b3,s3, -⟩:=hAll (3:Nat) (by omega)
   have t0:=st_c a0 b0
   have t1:=st_c a1 b1
   have t2:=st_c a2 b2
   have t3:=st_c a3 b3
   have HA:=Lib.hid hAll
   clear hAll
   have HS0:=Lib.hid s0
   have HS1:=Lib.hid s1
   have HS2:=Lib.hid s2
   have HS3:=Lib.hid s3
   go_wp2
   refine bodyPost_ret (Kit.results_c rfl _ _ (w.heap.size+1+1) 0 [.complex .f64 a0 b0,.complex .f64 a1 b1,.complex .f64 a2 b2,.complex .f64 a3 b3] _ rfl (range_4 (by go_cell) (by go_cell) (by go_cell) (by go_cell)) Tryz.underlying179 rfl (by kernel_rfl)) rfl ?_
   refine⟨⟨S,?_,HA.out⟩,?_⟩
   ·unfold agg4
    rw [HS0.out,HS1.out,HS2.out,HS3.out]
   ·have:=hBw.out
    go_grown
end Go.Proofs.YtkpngknbiecdiaaGreatDoor.CFour
end
