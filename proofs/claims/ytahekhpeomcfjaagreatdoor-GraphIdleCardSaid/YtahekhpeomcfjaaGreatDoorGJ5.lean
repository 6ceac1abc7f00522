/- -/
import Derived.Deep.RegionHeld3
import Derived.Lib.SliceRun
import Derived.Test.YtahekhpeomcfjaaGreatDoorGJ4
open Go.Lib (hid)
open Nat (le_refl lt_of_succ_lt lt_succ_self)
set_option linter.unusedVariables false
set_option linter.unusedSimpArgs false
set_option maxRecDepth 100000
set_option maxHeartbeats 16000000
namespace Go.Proofs.YtahekhpeomcfjaaGreatDoor
namespace CSat
end CSat
namespace CShape
end CShape
open Go Go.ChangeShapes Go.WideShapes Go.ChangeAt Go.RowKit
section
namespace CShape
open Plain CSat
theorem zbw (n lo hi:Int) (h1:lo≤n) (h2:n≤hi) (w:World) :
  Calls Tryz.prog 40 #[.int .i64 n,.int .i64 lo,.int .i64 hi] w fun e w'=>e=.returned (.bool true)∧w=w':=by
 go_enter Tryz.func40,Tryz.ntmps40
 go_wp2
 go_ret
 exact⟨rfl,rfl⟩
theorem within_no (n lo hi:Int) (h:n < lo∨hi < n) (w:World) :
  Calls Tryz.prog 40 #[.int .i64 n,.int .i64 lo,.int .i64 hi] w fun e w'=>e=.returned (.bool false)∧w=w':=by
 by_cases h1:n < lo
 ·have hd:decide (n ≥ lo)=false:=by simp;omega
  go_enter Tryz.func40,Tryz.ntmps40
  go_wp2
  go_ret
  exact⟨rfl,rfl⟩
 ·have h2:hi < n:=by omega
  have hd:decide (n≤hi)=false:=by simp;omega
  go_enter Tryz.func40,Tryz.ntmps40
  go_wp2
  go_ret
  exact⟨rfl,rfl⟩
theorem times_in (a b c:Int) (ha1 : -9223372036854775808≤a) (ha2:a≤9223372036854775807) (hb1 : -9223372036854775808≤b) (hb2:b≤9223372036854775807) (hc:a * b=c) (hc1 : -9223372036854775808≤c) (hc2:c≤9223372036854775807) (w:World) :
  Calls Tryz.prog 69 #[.int .i64 a,.int .i64 b] w fun e w'=>e=.returned (.tuple #[.int .i64 c,.bool true])∧w=w':=by
 subst hc
 have h:=times a b ha1 ha2 hb1 hb2 w
 rw [fitZ_yes hc1 hc2,fits_yes hc1 hc2] at h
 exact h
theorem product (a b c p q:Int) (ha1:1≤a) (ha2:a≤16) (hb1:1≤b) (hb2:b≤16) (hc1:1≤c) (hc2:c≤1024) (hp:a * b=p) (hq:p * c=q) (w:World) :
  Calls Tryz.prog 41 #[.agg #[.int .i64 a,.int .i64 b,.int .i64 c]] w fun e w'=>e=.returned (.tuple #[.int .i64 q,.bool true])∧Below w.heap.size w w':=by
 have hp1:1≤p:=hp ▸ Int.mul_le_mul ha1 hb1 (by omega) (by omega)
 have hp2:p≤256:=hp ▸ Int.mul_le_mul ha2 hb2 (by omega) (by omega)
 have hq1:1≤q:=hq ▸ Int.mul_le_mul hp1 hc1 (by omega) (by omega)
 have hq2:q≤262144:=hq ▸ Int.mul_le_mul hp2 hc2 (by omega) (by omega)
 have HP:=hid hp
 have HQ:=hid hq
 clear hp hq
 go_enter Tryz.func41,Tryz.ntmps41
 go_wp2
 go_loop [4,5,6,7] (fun n ok i t=>(n=.int .i64 1∧t=.int .i64 0)∨(n=.int .i64 a∧t=.int .i64 1)∨(n=.int .i64 p∧t=.int .i64 2)∨(n=.int .i64 q∧t=.int .i64 3)) (fun _ _ _ t=>3 - (intOf t).toNat)
 case atStart=>exact .inl ⟨rfl,rfl⟩
 case round =>
  rcases hrel with ⟨rfl,rfl⟩ | ⟨rfl,rfl⟩ | ⟨rfl,rfl⟩ | ⟨rfl,rfl⟩
  ·go_wp2_with (go_at_call 69;refine (times_in _ _ a (by omega) (by omega) (by omega) (by omega) (by omega) (by omega) (by omega) _).mono ?_;rintro e w' ⟨rfl,rfl⟩)
   go_round
   case rel=>exact .inr (.inl ⟨rfl,rfl⟩)
   case measure=>simp [intOf]
  ·go_wp2_with (go_at_call 69;refine (times_in _ _ p (by omega) (by omega) (by omega) (by omega) HP.out (by omega) (by omega) _).mono ?_;rintro e w' ⟨rfl,rfl⟩)
   go_round
   case rel=>exact .inr (.inr (.inl ⟨rfl,rfl⟩))
   case measure=>simp [intOf]
  ·go_wp2_with (go_at_call 69;refine (times_in _ _ q (by omega) (by omega) (by omega) (by omega) HQ.out (by omega) (by omega) _).mono ?_;rintro e w' ⟨rfl,rfl⟩)
   go_round
   case rel=>exact .inr (.inr (.inr ⟨rfl,rfl⟩))
   case measure=>simp [intOf]
  ·go_wp2
   go_ret2
   exact⟨rfl,(Below.refl _ _).alloc (le_refl _) _⟩
def zad (h w c:Int):Bool:=decide (1≤h∧h≤16∧1≤w∧w≤16∧1≤c∧c≤1024∧h * w * c≤1024)
def zay (h w c:Int):Int:=if zad h w c then h * w * c else 0
theorem prod_bd {h w c:Int} (h1:1≤h) (h2:h≤16) (h3:1≤w) (h4:w≤16) (h5:1≤c) (h6:c≤1024):1≤h * w * c∧h * w * c≤262144:=by
 have a1:1≤h * w:=Int.mul_le_mul h1 h3 (by omega) (by omega)
 have a2:h * w≤256:=Int.mul_le_mul h2 h4 (by omega) (by omega)
 exact⟨Int.mul_le_mul a1 h5 (by omega) (by omega),Int.mul_le_mul a2 h6 (by omega) (by omega)⟩
theorem zab {h w c:Int} (hs:zad h w c=true):1≤h∧h≤16∧1≤w∧w≤16∧1≤c∧c≤1024∧h * w * c≤1024:=by simpa [zad] using hs
theorem zaw {h w c:Int} (hs:zad h w c=true):zay h w c=h * w * c:=by unfold zay;rw [if_pos hs]
theorem elemsZ_no {h w c:Int} (hs:zad h w c=false):zay h w c=0:=by unfold zay;rw [if_neg (by simp [hs])]
theorem elemsZ_pos (h w c:Int):decide (zay h w c > 0)=zad h w c:=by
 cases hs:zad h w c
 ·rw [elemsZ_no hs];rfl
 ·obtain⟨a1,a2,a3,a4,a5,a6,a7⟩:=zab hs
  rw [zaw hs]
  have:=prod_bd a1 a2 a3 a4 a5 a6
  simp;omega
theorem elems_yes (h w c n:Int) (h1:1≤h) (h2:h≤16) (h3:1≤w) (h4:w≤16) (h5:1≤c) (h6:c≤1024) (hn:h * w * c=n) (hn1:n≤1024) (W:World) :
  Calls Tryz.prog 25 #[.agg #[.int .i64 h,.int .i64 w,.int .i64 c]] W fun e w'=>e=.returned (.int .i64 n)∧Below W.heap.size W w':=by
 have hb:=prod_bd h1 h2 h3 h4 h5 h6
 rw [hn] at hb
 obtain⟨b1,b2⟩:=hb
 have HN:=hid hn
 clear hn
 go_enter Tryz.func25,Tryz.ntmps25
 go_wp2_with (first
   | (go_at_call 40;refine (zbw _ _ _ (by omega) (by omega) _).mono ?_;rintro e w' ⟨rfl,rfl⟩)
   | (go_at_call 41;refine (product h w c _ n h1 h2 h3 h4 h5 h6 rfl HN.out _).mono ?_;rintro e w1 ⟨rfl,hb⟩))
 go_ret
 exact⟨rfl,((Below.refl _ _).alloc (le_refl _) _).trans (hb.mono (by simp))⟩
theorem elems_many (h w c n:Int) (h1:1≤h) (h2:h≤16) (h3:1≤w) (h4:w≤16) (h5:1≤c) (h6:c≤1024) (hn:h * w * c=n) (hn1:1024 < n) (W:World) :
  Calls Tryz.prog 25 #[.agg #[.int .i64 h,.int .i64 w,.int .i64 c]] W fun e w'=>e=.returned (.int .i64 0)∧Below W.heap.size W w':=by
 have hb:=prod_bd h1 h2 h3 h4 h5 h6
 rw [hn] at hb
 obtain⟨b1,b2⟩:=hb
 have HN:=hid hn
 clear hn
 go_enter Tryz.func25,Tryz.ntmps25
 go_wp2_with (first
   | (go_at_call 40;refine (zbw _ _ _ (by omega) (by omega) _).mono ?_;rintro e w' ⟨rfl,rfl⟩)
   | (go_at_call 41;refine (product h w c _ n h1 h2 h3 h4 h5 h6 rfl HN.out _).mono ?_;rintro e w1 ⟨rfl,hb⟩))
 go_ret
 exact⟨rfl,((Below.refl _ _).alloc (le_refl _) _).trans (hb.mono (by simp))⟩
theorem elems_out (h w c:Int) (hw:(h < 1∨16 < h)∨(1≤h∧h≤16∧(w < 1∨16 < w))∨(1≤h∧h≤16∧1≤w∧w≤16∧(c < 1∨1024 < c))) (W:World) :
  Calls Tryz.prog 25 #[.agg #[.int .i64 h,.int .i64 w,.int .i64 c]] W fun e w'=>e=.returned (.int .i64 0)∧Below W.heap.size W w':=by
 rcases hw with h1 | ⟨h1,h2,h3⟩ | ⟨h1,h2,h3,h4,h5⟩
 all_goals
  go_enter Tryz.func25,Tryz.ntmps25
  go_wp2_with (first
   | (go_at_call 40;refine (zbw _ _ _ (by omega) (by omega) _).mono ?_;rintro e w' ⟨rfl,rfl⟩)
   | (go_at_call 40;refine (within_no _ _ _ (by omega) _).mono ?_;rintro e w' ⟨rfl,rfl⟩))
  go_ret
  exact⟨rfl,(Below.refl _ _).alloc (le_refl _) _⟩
theorem zbk (h w c n:Int) (hn:zay h w c=n) (W:World) :
  Calls Tryz.prog 25 #[.agg #[.int .i64 h,.int .i64 w,.int .i64 c]] W fun e w'=>e=.returned (.int .i64 n)∧Below W.heap.size W w':=by
 cases hs:zad h w c
 ·rw [elemsZ_no hs] at hn
  subst hn
  by_cases hi:1≤h∧h≤16∧1≤w∧w≤16∧1≤c∧c≤1024
  ·obtain⟨a1,a2,a3,a4,a5,a6⟩:=hi
   exact elems_many h w c _ a1 a2 a3 a4 a5 a6 rfl (by simp [zad] at hs;omega) W
  ·exact elems_out h w c (by omega) W
 ·obtain⟨a1,a2,a3,a4,a5,a6,a7⟩:=zab hs
  rw [zaw hs] at hn
  exact elems_yes h w c n a1 a2 a3 a4 a5 a6 hn (hn ▸ a7) W
theorem zac (h w c:Int) (b:Bool) (hb:zad h w c=b) (W:World) :
  Calls Tryz.prog 24 #[.agg #[.int .i64 h,.int .i64 w,.int .i64 c]] W fun e w'=>e=.returned (.bool b)∧Below W.heap.size W w':=by
 obtain⟨n,hn⟩:∃ n,zay h w c=n:=⟨_,rfl⟩
 have hd:decide (n > 0)=b:=by rw [← hn,elemsZ_pos,hb]
 have HN:=hid hn
 clear hn
 go_enter Tryz.func24,Tryz.ntmps24
 go_wp2_with (go_at_call 25;refine (zbk _ _ _ n HN.out _).mono ?_;rintro e w1 ⟨rfl,hb⟩)
 go_ret
 exact⟨rfl,((Below.refl _ _).alloc (le_refl _) _).trans (hb.mono (by simp))⟩
def inB (H W C h w c:Int):Bool:=zad H W C && decide (0≤h∧h < H∧0≤w∧w < W∧0≤c∧c < C)
theorem at_bd {H W C h w c:Int} (hs:zad H W C=true) (h1:0≤h) (h2:h < H) (w1:0≤w) (w2:w < W) (c1:0≤c) (c2:c < C) :
  0≤h * W∧h * W≤256∧0≤(h * W+w) * C∧(h * W+w) * C+c < H * W * C∧H * W * C≤1024:=by
 obtain⟨a1,a2,a3,a4,a5,a6,a7⟩:=zab hs
 have b1:0≤h * W:=Int.mul_nonneg h1 (by omega)
 have b2:h * W≤15 * 16:=Int.mul_le_mul (by omega) a4 (by omega) (by omega)
 have b3:0≤(h * W+w) * C:=Int.mul_nonneg (by omega) (by omega)
 have b4:(h+1) * W≤H * W:=Int.mul_le_mul_of_nonneg_right (by omega) (by omega)
 have b5:h * W+w+1≤H * W:=by rw [Int.add_mul,Int.one_mul] at b4;omega
 have b6:(h * W+w+1) * C≤H * W * C:=Int.mul_le_mul_of_nonneg_right b5 (by omega)
 rw [Int.add_mul,Int.one_mul] at b6
 omega
theorem index_yes (H W C h w c p:Int) (hs:zad H W C=true) (h1:0≤h) (h2:h < H) (w1:0≤w) (w2:w < W) (c1:0≤c) (c2:c < C) (hp:(h * W+w) * C+c=p) (wd:World) :
  Calls Tryz.prog 133 #[.agg #[.int .i64 H,.int .i64 W,.int .i64 C],.int .i64 h,.int .i64 w,.int .i64 c] wd fun e w'=>e=.returned (.tuple #[.int .i64 p,.bool true])∧Below wd.heap.size wd w':=by
 obtain⟨b1,b2,b3,b4,b5⟩:=at_bd hs h1 h2 w1 w2 c1 c2
 obtain⟨a1,a2,a3,a4,a5,a6,a7⟩:=zab hs
 have b6:(h * W+w) * C+c < 1024:=by omega
 subst hp
 have HS:=hid hs
 clear hs b4 b5 a7
 go_enter Tryz.func133,Tryz.ntmps133
 go_wp2_with (first
   | (go_at_call 40;refine (zbw _ _ _ (by omega) (by omega) _).mono ?_;rintro e w' ⟨rfl,rfl⟩)
   | (go_at_call 24;refine (zac _ _ _ _ HS.out _).mono ?_;rintro e w1 ⟨rfl,hb⟩;obtain⟨hc,hf⟩:=Kit.bcell hb))
 go_ret2
 exact⟨rfl,((Below.refl _ _).alloc (le_refl _) _).trans (hb.mono (by simp))⟩
theorem index_no (H W C h w c:Int) (hs:inB H W C h w c=false) (wd:World) :
  Calls Tryz.prog 133 #[.agg #[.int .i64 H,.int .i64 W,.int .i64 C],.int .i64 h,.int .i64 w,.int .i64 c] wd fun e w'=>e=.returned (.tuple #[.int .i64 0,.bool false])∧Below wd.heap.size wd w':=by
 cases hr:zad H W C
 ·have HS:=hid hr
  clear hs hr
  go_enter Tryz.func133,Tryz.ntmps133
  go_wp2_with (go_at_call 24;refine (zac _ _ _ _ HS.out _).mono ?_;rintro e w1 ⟨rfl,hb⟩;obtain⟨hc,hf⟩:=Kit.bcell hb)
  go_ret2
  exact⟨rfl,((Below.refl _ _).alloc (le_refl _) _).trans (hb.mono (by simp))⟩
 ·have h0:(h < 0∨H - 1 < h)∨(0≤h∧h≤H - 1∧(w < 0∨W - 1 < w))∨(0≤h∧h≤H - 1∧0≤w∧w≤W - 1∧(c < 0∨C - 1 < c)):=by
   simp [inB,hr] at hs;omega
  obtain⟨a1,a2,a3,a4,a5,a6,a7⟩:=zab hr
  have HS:=hid hr
  clear hs hr a7
  rcases h0 with h1 | ⟨h1,h2,h3⟩ | ⟨h1,h2,h3,h4,h5⟩
  all_goals
   go_enter Tryz.func133,Tryz.ntmps133
   go_wp2_with (first
    | (go_at_call 40;refine (zbw _ _ _ (by omega) (by omega) _).mono ?_;rintro e w' ⟨rfl,rfl⟩)
    | (go_at_call 40;refine (within_no _ _ _ (by omega) _).mono ?_;rintro e w' ⟨rfl,rfl⟩)
    | (go_at_call 24;refine (zac _ _ _ _ HS.out _).mono ?_;rintro e w1 ⟨rfl,hb⟩;obtain⟨hc,hf⟩:=Kit.bcell hb))
   go_ret2
   exact⟨rfl,((Below.refl _ _).alloc (le_refl _) _).trans (hb.mono (by simp))⟩
/-! ### windows -/
def argsB (n k s p:Int):Bool:=decide (1≤n∧n≤1024∧1≤k∧k≤5∧1≤s∧s≤4∧0≤p∧p≤4∧p < k)
def zae (n k s p:Int):Int:=if argsB n k s p then (if n+2 * p - k < 0 then 0 else (n+2 * p - k) / s+1) else 0
def zbl (n k s p:Int):Int:=if argsB n k s p then (if n+2 * p - k < 0 then 5 else 0) else 2
theorem za7 {n k s p:Int} (h:argsB n k s p=true):1≤n∧n≤1024∧1≤k∧k≤5∧1≤s∧s≤4∧0≤p∧p≤4∧p < k:=by simpa [argsB] using h
theorem argsB_no {n k s p:Int} (h:argsB n k s p=false):(n < 1∨1024 < n)∨(1≤n∧n≤1024∧(k < 1∨5 < k))∨(1≤n∧n≤1024∧1≤k∧k≤5∧(s < 1∨4 < s)) ∨
  (1≤n∧n≤1024∧1≤k∧k≤5∧1≤s∧s≤4∧(p < 0∨4 < p))∨(1≤n∧n≤1024∧1≤k∧k≤5∧1≤s∧s≤4∧0≤p∧p≤4∧k≤p):=by
 simp [argsB] at h;omega
theorem steps_arg (n k s p:Int) (h:argsB n k s p=false) (w:World) :
  Calls Tryz.prog 114 #[.int .i64 n,.int .i64 k,.int .i64 s,.int .i64 p] w fun e w'=>e=.returned (.tuple #[.int .i64 0,.int .i64 2])∧w=w':=by
 rcases argsB_no h with h1 | ⟨h1,h2,h3⟩ | ⟨h1,h2,h3,h4,h5⟩ | ⟨h1,h2,h3,h4,h5,h6,h7⟩ | ⟨h1,h2,h3,h4,h5,h6,h7,h8,h9⟩
 all_goals
  clear h
  go_enter Tryz.func114,Tryz.ntmps114
  go_wp2_with (first
   | (go_at_call 40;refine (zbw _ _ _ (by omega) (by omega) _).mono ?_;rintro e w' ⟨rfl,rfl⟩)
   | (go_at_call 40;refine (within_no _ _ _ (by omega) _).mono ?_;rintro e w' ⟨rfl,rfl⟩))
  go_ret2
  exact⟨rfl,rfl⟩
theorem steps_in (n k s p:Int) (h:argsB n k s p=true) (w:World) :
  Calls Tryz.prog 114 #[.int .i64 n,.int .i64 k,.int .i64 s,.int .i64 p] w fun e w'=>e=.returned (.tuple #[.int .i64 (if n+2 * p - k < 0 then 0 else (n+2 * p - k) / s+1),.int .i64 (if n+2 * p - k < 0 then 5 else 0)])∧w=w':=by
 obtain⟨h1,h2,h3,h4,h5,h6,h7,h8,h9⟩:=za7 h
 clear h
 by_cases hr:n+2 * p - k < 0
 ·rw [if_pos hr,if_pos hr]
  go_enter Tryz.func114,Tryz.ntmps114
  go_wp2_with (go_at_call 40;refine (zbw _ _ _ (by omega) (by omega) _).mono ?_;rintro e w' ⟨rfl,rfl⟩)
  go_ret2
  exact⟨rfl,rfl⟩
 ·rw [if_neg hr,if_neg hr]
  obtain⟨q,hq⟩:∃ q,(n+2 * p - k) / s=q:=⟨_,rfl⟩
  have hq1:0≤q:=hq ▸ Int.ediv_nonneg (by omega) (by omega)
  have hq2:q≤2000:=by
   rw [← hq]
   exact Int.le_trans (Int.ediv_le_self s (by omega)) (by omega)
  have hq3:(n+2 * p - k).tdiv s=q:=by rw [Int.tdiv_eq_ediv_of_nonneg (by omega)];exact hq
  rw [hq]
  go_enter Tryz.func114,Tryz.ntmps114
  go_wp2_with (go_at_call 40;refine (zbw _ _ _ (by omega) (by omega) _).mono ?_;rintro e w' ⟨rfl,rfl⟩)
  go_ret2
  exact⟨rfl,rfl⟩
theorem zcx (n k s p m e:Int) (hm:zae n k s p=m) (he:zbl n k s p=e) (w:World) :
  Calls Tryz.prog 114 #[.int .i64 n,.int .i64 k,.int .i64 s,.int .i64 p] w fun r w'=>r=.returned (.tuple #[.int .i64 m,.int .i64 e])∧w=w':=by
 unfold zae at hm
 unfold zbl at he
 cases h:argsB n k s p
 ·rw [if_neg (by simp [h])] at hm he
  subst hm he
  exact steps_arg n k s p h w
 ·rw [if_pos h] at hm he
  subst hm he
  exact steps_in n k s p h w
/-! ### places -/
/-! ### the shape that a window makes -/
def zaz (H W C k s p o:Int):Int:=if zad H W C=false then 5 else if zbl H k s p≠0 then zbl H k s p else if zbl W k s p≠0 then zbl W k s p else if zad (zae H k s p) (zae W k s p) o then 0 else 5
def za8 (H W C k s p o:Int):Array Value:=if zaz H W C k s p o=0 then #[.int .i64 (zae H k s p),.int .i64 (zae W k s p),.int .i64 o] else #[.int .i64 0,.int .i64 0,.int .i64 0]
theorem slide_wrong (H W C k s p o:Int) (hs:zad H W C=false) (wd:World) :
  Calls Tryz.prog 78 #[.agg #[.int .i64 H,.int .i64 W,.int .i64 C],.int .i64 k,.int .i64 s,.int .i64 p,.int .i64 o] wd fun e w'=>e=.returned (.tuple #[.agg #[.int .i64 0,.int .i64 0,.int .i64 0],.int .i64 5])∧Below wd.heap.size wd w':=by
 have HS:=hid hs
 clear hs
 go_enter Tryz.func78,Tryz.ntmps78
 go_wp2_with (go_at_call 24;refine (zac _ _ _ _ HS.out _).mono ?_;rintro e w1 ⟨rfl,hb⟩;obtain⟨hc,hf⟩:=Kit.bcell hb)
 have hs1:wd.heap.size+1 < w1.heap.size:=by have:=hb.size;simp at this;omega
 have hB:Below wd.heap.size wd w1:=(((Below.refl _ _).alloc (le_refl _) _).alloc (by simp) _).trans (hb.mono (by simp;omega))
 refine bodyPost_ret (Kit.zaa rfl _ _ (wd.heap.size+1) 0 [.int .i64 0,.int .i64 0,.int .i64 0] _ rfl (Kit.zaq (by go_cell) (by go_cell) (by go_cell)) Tryz.underlying24 rfl (by kernel_rfl)) rfl ?_
 exact⟨rfl,by go_grown⟩
theorem slide_one (H W C k s p o m e1:Int) (hs:zad H W C=true) (hm:zae H k s p=m) (he:zbl H k s p=e1) (hn:e1≠0) (wd:World) :
  Calls Tryz.prog 78 #[.agg #[.int .i64 H,.int .i64 W,.int .i64 C],.int .i64 k,.int .i64 s,.int .i64 p,.int .i64 o] wd fun e w'=>e=.returned (.tuple #[.agg #[.int .i64 0,.int .i64 0,.int .i64 0],.int .i64 e1])∧Below wd.heap.size wd w':=by
 have HS:=hid hs
 have HM:=hid hm
 have HE:=hid he
 clear hs hm he
 go_enter Tryz.func78,Tryz.ntmps78
 go_wp2_with (first
  | (go_at_call 24;refine (zac _ _ _ _ HS.out _).mono ?_;rintro e w1 ⟨rfl,hb⟩;obtain⟨hc,hf⟩:=Kit.bcell hb)
  | (go_at_call 114;refine (zcx _ _ _ _ m e1 HM.out HE.out _).mono ?_;rintro e w' ⟨rfl,rfl⟩))
 have hs1:wd.heap.size+1 < w1.heap.size:=by have:=hb.size;simp at this;omega
 have hB:Below wd.heap.size wd w1:=(((Below.refl _ _).alloc (le_refl _) _).alloc (by simp) _).trans (hb.mono (by simp;omega))
 refine bodyPost_ret (Kit.zaa rfl _ _ (wd.heap.size+1) 0 [.int .i64 0,.int .i64 0,.int .i64 0] _ rfl (Kit.zaq (by go_cell) (by go_cell) (by go_cell)) Tryz.underlying24 rfl (by kernel_rfl)) rfl ?_
 exact⟨rfl,by go_grown⟩
theorem slide_two (H W C k s p o m m2 e2:Int) (hs:zad H W C=true) (hm:zae H k s p=m) (he:zbl H k s p=0) (hm2:zae W k s p=m2) (he2:zbl W k s p=e2) (hn:e2≠0) (wd:World) :
  Calls Tryz.prog 78 #[.agg #[.int .i64 H,.int .i64 W,.int .i64 C],.int .i64 k,.int .i64 s,.int .i64 p,.int .i64 o] wd fun e w'=>e=.returned (.tuple #[.agg #[.int .i64 0,.int .i64 0,.int .i64 0],.int .i64 e2])∧Below wd.heap.size wd w':=by
 have HS:=hid hs
 have HM:=hid hm
 have HE:=hid he
 have HM2:=hid hm2
 have HE2:=hid he2
 clear hs hm he hm2 he2
 go_enter Tryz.func78,Tryz.ntmps78
 go_wp2_with (first
  | (go_at_call 24;((with_reducible refine (zac H W C true HS.out _).mono ?_);rintro e w1 ⟨rfl,hb⟩;obtain⟨hc,hf⟩:=Kit.bcell hb))
  | (go_at_call 114;((with_reducible refine (zcx H k s p m 0 HM.out HE.out _).mono ?_);rintro e w' ⟨rfl,rfl⟩))
  | (go_at_call 114;((with_reducible refine (zcx W k s p m2 e2 HM2.out HE2.out _).mono ?_);rintro e w' ⟨rfl,rfl⟩)))
 have hs1:wd.heap.size+1 < w1.heap.size:=by have:=hb.size;simp at this;omega
 have hB:Below wd.heap.size wd w1:=(((Below.refl _ _).alloc (le_refl _) _).alloc (by simp) _).trans (hb.mono (by simp;omega))
 refine bodyPost_ret (Kit.zaa rfl _ _ (wd.heap.size+1) 0 [.int .i64 0,.int .i64 0,.int .i64 0] _ rfl (Kit.zaq (by go_cell) (by go_cell) (by go_cell)) Tryz.underlying24 rfl (by kernel_rfl)) rfl ?_
 exact⟨rfl,by go_grown⟩
theorem slide_bad (H W C k s p o m m2:Int) (hs:zad H W C=true) (hm:zae H k s p=m) (he:zbl H k s p=0) (hm2:zae W k s p=m2) (he2:zbl W k s p=0) (hr:zad m m2 o=false) (wd:World) :
  Calls Tryz.prog 78 #[.agg #[.int .i64 H,.int .i64 W,.int .i64 C],.int .i64 k,.int .i64 s,.int .i64 p,.int .i64 o] wd fun e w'=>e=.returned (.tuple #[.agg #[.int .i64 0,.int .i64 0,.int .i64 0],.int .i64 5])∧Below wd.heap.size wd w':=by
 have HS:=hid hs
 have HM:=hid hm
 have HE:=hid he
 have HM2:=hid hm2
 have HE2:=hid he2
 have HR:=hid hr
 clear hs hm he hm2 he2 hr
 go_enter Tryz.func78,Tryz.ntmps78
 go_wp2_with (first
  | (go_at_call 24;((with_reducible refine (zac H W C true HS.out _).mono ?_);rintro e w1 ⟨rfl,hb⟩;obtain⟨hc,hf⟩:=Kit.bcell hb))
  | (go_at_call 114;((with_reducible refine (zcx H k s p m 0 HM.out HE.out _).mono ?_);rintro e w' ⟨rfl,rfl⟩))
  | (go_at_call 114;((with_reducible refine (zcx W k s p m2 0 HM2.out HE2.out _).mono ?_);rintro e w' ⟨rfl,rfl⟩))
  | (go_at_call 24;((with_reducible refine (zac m m2 o false HR.out _).mono ?_);(rintro e w2 ⟨rfl,hb2⟩;have hs1:wd.heap.size+1 < w1.heap.size:=(by have:=hb.size;simp at this;omega);have d0:w2.cell? ⟨wd.heap.size+1,0,none⟩=some (.int .i64 0):=(hb2.cell (p:=⟨wd.heap.size+1,0,none⟩) (by simp;omega)).trans (by go_cell);have d1:w2.cell? ⟨wd.heap.size+1,1,none⟩=some (.int .i64 0):=(hb2.cell (p:=⟨wd.heap.size+1,1,none⟩) (by simp;omega)).trans (by go_cell);have d2:w2.cell? ⟨wd.heap.size+1,2,none⟩=some (.int .i64 0):=(hb2.cell (p:=⟨wd.heap.size+1,2,none⟩) (by simp;omega)).trans (by go_cell);have g0:w2.frozen? ⟨wd.heap.size+1,0,none⟩=false:=(hb2.frozen (p:=⟨wd.heap.size+1,0,none⟩) (by simp;omega)).trans (by go_cell);have g1:w2.frozen? ⟨wd.heap.size+1,1,none⟩=false:=(hb2.frozen (p:=⟨wd.heap.size+1,1,none⟩) (by simp;omega)).trans (by go_cell);have g2:w2.frozen? ⟨wd.heap.size+1,2,none⟩=false:=(hb2.frozen (p:=⟨wd.heap.size+1,2,none⟩) (by simp;omega)).trans (by go_cell);have c0:w2.cell? ⟨w1.heap.size,0,none⟩=some (.int .i64 m):=(hb2.cell (p:=⟨w1.heap.size,0,none⟩) (by simp)).trans (by go_cell);have c1:w2.cell? ⟨w1.heap.size,1,none⟩=some (.int .i64 m2):=(hb2.cell (p:=⟨w1.heap.size,1,none⟩) (by simp)).trans (by go_cell);have c2:w2.cell? ⟨w1.heap.size,2,none⟩=some (.int .i64 o):=(hb2.cell (p:=⟨w1.heap.size,2,none⟩) (by simp)).trans (by go_cell);clear hc hf))))
 have hs2:w1.heap.size < w2.heap.size:=by have:=hb2.size;simp at this;omega
 have hB:Below wd.heap.size wd w1:=(((Below.refl _ _).alloc (le_refl _) _).alloc (by simp) _).trans (hb.mono (by simp;omega))
 have hB2:Below wd.heap.size wd w2:=(by go_grown:Below wd.heap.size wd _).trans (hb2.mono (by simp;omega))
 refine bodyPost_ret (Kit.zaa rfl _ _ (wd.heap.size+1) 0 [.int .i64 0,.int .i64 0,.int .i64 0] _ rfl (Kit.zaq (by go_cell) (by go_cell) (by go_cell)) Tryz.underlying24 rfl (by kernel_rfl)) rfl ?_
 exact⟨rfl,by go_grown⟩
theorem slide_good (H W C k s p o m m2:Int) (hs:zad H W C=true) (hm:zae H k s p=m) (he:zbl H k s p=0) (hm2:zae W k s p=m2) (he2:zbl W k s p=0) (hr:zad m m2 o=true) (wd:World) :
  Calls Tryz.prog 78 #[.agg #[.int .i64 H,.int .i64 W,.int .i64 C],.int .i64 k,.int .i64 s,.int .i64 p,.int .i64 o] wd fun e w'=>e=.returned (.tuple #[.agg #[.int .i64 m,.int .i64 m2,.int .i64 o],.int .i64 0])∧Below wd.heap.size wd w':=by
 have HS:=hid hs
 have HM:=hid hm
 have HE:=hid he
 have HM2:=hid hm2
 have HE2:=hid he2
 have HR:=hid hr
 clear hs hm he hm2 he2 hr
 go_enter Tryz.func78,Tryz.ntmps78
 go_wp2_with (first
  | (go_at_call 24;((with_reducible refine (zac H W C true HS.out _).mono ?_);rintro e w1 ⟨rfl,hb⟩;obtain⟨hc,hf⟩:=Kit.bcell hb))
  | (go_at_call 114;((with_reducible refine (zcx H k s p m 0 HM.out HE.out _).mono ?_);rintro e w' ⟨rfl,rfl⟩))
  | (go_at_call 114;((with_reducible refine (zcx W k s p m2 0 HM2.out HE2.out _).mono ?_);rintro e w' ⟨rfl,rfl⟩))
  | (go_at_call 24;((with_reducible refine (zac m m2 o true HR.out _).mono ?_);(rintro e w2 ⟨rfl,hb2⟩;have hs1:wd.heap.size+1 < w1.heap.size:=(by have:=hb.size;simp at this;omega);have d0:w2.cell? ⟨wd.heap.size+1,0,none⟩=some (.int .i64 0):=(hb2.cell (p:=⟨wd.heap.size+1,0,none⟩) (by simp;omega)).trans (by go_cell);have d1:w2.cell? ⟨wd.heap.size+1,1,none⟩=some (.int .i64 0):=(hb2.cell (p:=⟨wd.heap.size+1,1,none⟩) (by simp;omega)).trans (by go_cell);have d2:w2.cell? ⟨wd.heap.size+1,2,none⟩=some (.int .i64 0):=(hb2.cell (p:=⟨wd.heap.size+1,2,none⟩) (by simp;omega)).trans (by go_cell);have g0:w2.frozen? ⟨wd.heap.size+1,0,none⟩=false:=(hb2.frozen (p:=⟨wd.heap.size+1,0,none⟩) (by simp;omega)).trans (by go_cell);have g1:w2.frozen? ⟨wd.heap.size+1,1,none⟩=false:=(hb2.frozen (p:=⟨wd.heap.size+1,1,none⟩) (by simp;omega)).trans (by go_cell);have g2:w2.frozen? ⟨wd.heap.size+1,2,none⟩=false:=(hb2.frozen (p:=⟨wd.heap.size+1,2,none⟩) (by simp;omega)).trans (by go_cell);have c0:w2.cell? ⟨w1.heap.size,0,none⟩=some (.int .i64 m):=(hb2.cell (p:=⟨w1.heap.size,0,none⟩) (by simp)).trans (by go_cell);have c1:w2.cell? ⟨w1.heap.size,1,none⟩=some (.int .i64 m2):=(hb2.cell (p:=⟨w1.heap.size,1,none⟩) (by simp)).trans (by go_cell);have c2:w2.cell? ⟨w1.heap.size,2,none⟩=some (.int .i64 o):=(hb2.cell (p:=⟨w1.heap.size,2,none⟩) (by simp)).trans (by go_cell);clear hc hf))))
 have hs2:w1.heap.size < w2.heap.size:=by have:=hb2.size;simp at this;omega
 have hB:Below wd.heap.size wd w1:=(((Below.refl _ _).alloc (le_refl _) _).alloc (by simp) _).trans (hb.mono (by simp;omega))
 have hB2:Below wd.heap.size wd w2:=(by go_grown:Below wd.heap.size wd _).trans (hb2.mono (by simp;omega))
 refine bodyPost_ret (Kit.zaa rfl _ _ (wd.heap.size+1) 0 [.int .i64 m,.int .i64 m2,.int .i64 o] _ rfl (Kit.zaq (by go_cell) (by go_cell) (by go_cell)) Tryz.underlying24 rfl (by kernel_rfl)) rfl ?_
 exact⟨rfl,by go_grown⟩
theorem zbf (H W C k s p o e:Int) (v:Array Value) (he:zaz H W C k s p o=e) (hv:za8 H W C k s p o=v) (wd:World) :
  Calls Tryz.prog 78 #[.agg #[.int .i64 H,.int .i64 W,.int .i64 C],.int .i64 k,.int .i64 s,.int .i64 p,.int .i64 o] wd fun r w'=>r=.returned (.tuple #[.agg v,.int .i64 e])∧Below wd.heap.size wd w':=by
 subst hv
 unfold za8
 rw [he]
 unfold zaz at he
 cases hs:zad H W C
 ·rw [if_pos hs] at he
  subst he
  exact slide_wrong H W C k s p o hs wd
 ·rw [if_neg (by simp [hs])] at he
  by_cases h1:zbl H k s p=0
  ·rw [if_neg (by simp [h1])] at he
   by_cases h2:zbl W k s p=0
   ·rw [if_neg (by simp [h2])] at he
    cases hr:zad (zae H k s p) (zae W k s p) o
    ·rw [if_neg (by simp [hr])] at he
     subst he
     exact slide_bad H W C k s p o _ _ hs rfl h1 rfl h2 hr wd
    ·rw [if_pos hr] at he
     subst he
     exact slide_good H W C k s p o _ _ hs rfl h1 rfl h2 hr wd
   ·rw [if_pos h2] at he
    subst he
    rw [if_neg h2]
    exact slide_two H W C k s p o _ _ _ hs rfl h1 rfl rfl h2 wd
  ·rw [if_pos h1] at he
   subst he
   rw [if_neg h1]
   exact slide_one H W C k s p o _ _ hs rfl rfl h1 wd
end CShape
end
section
namespace CTensor
open Plain CSat CShape
def I8s (zs:List Int):List Value:=zs.map (.int .i8)
def Owned (w:World) (n:Nat) (xs:List Value) (e:Ending) (w':World):Prop :=
 ∃ v,e=.returned v∧w'.ownsRow w.heap.size 39 1 v n xs∧Below w.heap.size w w'
theorem info_i8:(Tryz.prog.info? 39).map (fun i=>(i.zero,i.size,i.bytes))=some (some (.int .i8 0),1,1):=by kernel_rfl
theorem sclone (A:Option Addr) (zs:List Int) (n c:Nat) (hn:zs.length=n) (hl:n≤1000000) {B:Nat} (w:World) (hB:B≤w.heap.size) (hr:Kit.Rd w B A (zs.map (.int .i8))) :
  Calls Tryz.prog 15 #[.slice A n c] w (Owned w n (I8s zs)):=by
 have HN:=hid hn
 have HR:=hid hr
 have qn:∀ (w:World) (a:Option Addr) (n c n' c':Nat),(binOp .eql 25 (.slice a n c) (.slice none n' c')).run Tryz.prog w=.ok (.bool a.isNone) w:=fun w a n c n' c'=>Lib.run_eql_slice_nil w _ _ a n c n' c' Tryz.underlying25
 cases A with
 | none =>
   have hz:zs=[]:=by
    cases zs with
    | nil=>rfl
    | cons z zs=>obtain⟨b,off,h,_⟩:=hr.plain (by simp);cases h
   subst hz
   have h0:n=0:=by simpa using hn.symm
   subst h0
   clear hn hr HN HR
   go_enter Tryz.func15,Tryz.ntmps15
   go_wp2
   go_ret
   exact⟨_,rfl,⟨by simp [I8s],.inl ⟨rfl,rfl⟩⟩,Below.refl _ _⟩
 | some ad =>
   clear hn hr
   go_enter Tryz.func15,Tryz.ntmps15
   obtain⟨i0,hi0,hi1,hi2,hi3⟩:=info_parts info_i8
   go_wp2_with (at_builtin;refine Kit.zal _ rfl (.tmp 5) (.tmp 6) _ rfl w.heap.size 39 i0 (.int .i8 0) 1 1 Tryz.underlying25 hi0 hi1 hi2 hi3 rfl (by decide) (.slice (some ⟨_,0,none⟩) 0 0) 0 [] rfl (World.ownsRow_lit _ #[] 0 (le_refl _) (Nat.zero_le _) rfl) _ _ n _ (I8s zs) rfl (by simp [I8s,HN.out]) (HR.out.alloc hB _) (Kit.zbj .i8 zs) (by unfold maxLen;omega) (by omega) (by simp) ?_;intro v1 w1 hown1 hg1 hat1;replace hown1:w1.ownsRow w.heap.size 39 1 v1 n (I8s zs):=(by simpa using hown1);have HO:=hid hown1;have HX:=hid (((Below.refl _ w).alloc (le_refl _) (.cells #[] 39)).grown hg1 (by simp) (fun q hq=>by simp [Value.ownBlock] at hq;omega));clear hown1 hg1 hat1)
   go_ret
   exact⟨_,rfl,HO.out,HX.out⟩
def tensB (H W C:Int) (n:Nat):Bool:=zad H W C && decide ((n:Int)=H * W * C)
def BoxAt (B:Nat) (H W C:Int) (A:Option Addr) (n c:Nat) (wd:World):Prop :=
 wd.cell? ⟨B,0,none⟩=some (.int .i64 H)∧wd.cell? ⟨B,1,none⟩=some (.int .i64 W)∧wd.cell? ⟨B,2,none⟩=some (.int .i64 C)∧wd.cell? ⟨B,3,none⟩=some (.slice A n c)
theorem BoxAt.new (H W C:Int) (A:Option Addr) (n c:Nat) (T:TypeId) (w:World):BoxAt w.heap.size H W C A n c (w.alloc (.cells #[.int .i64 H,.int .i64 W,.int .i64 C,.slice A n c] T)).drew :=
 ⟨Kit.zaf _ _ _ _,Kit.zaf _ _ _ _,Kit.zaf _ _ _ _,Kit.zaf _ _ _ _⟩
theorem BoxAt.below {B B':Nat} {H W C:Int} {A:Option Addr} {n c:Nat} {w w':World} (h:BoxAt B H W C A n c w) (hB:B < B') (hb:Below B' w w'):BoxAt B H W C A n c w' :=
 ⟨(hb.cell (p:=⟨B,0,none⟩) hB).trans h.1,(hb.cell (p:=⟨B,1,none⟩) hB).trans h.2.1,(hb.cell (p:=⟨B,2,none⟩) hB).trans h.2.2.1,(hb.cell (p:=⟨B,3,none⟩) hB).trans h.2.2.2⟩
theorem tens_eq {H W C m:Int} {n:Nat} {b:Bool} (hm:zay H W C=m) (hb:tensB H W C n=b):(if zad H W C=true then 0 < m∧((n:Int) == m)=b else m=0∧false=b):=by
 cases hr:zad H W C
 ·rw [elemsZ_no hr] at hm
  subst hm hb
  simp [tensB,hr]
 ·have:=elemsZ_pos H W C
  rw [hr,hm] at this
  rw [zaw hr] at hm
  subst hb
  simp at this
  rw [if_pos rfl]
  refine⟨this,?_⟩
  rw [tensB,hr,hm,Bool.true_and]
  rfl
theorem zac (H W C:Int) (A:Option Addr) (n c:Nat) (b:Bool) (hb:tensB H W C n=b) (w:World) :
  Calls Tryz.prog 13 #[.agg #[.int .i64 H,.int .i64 W,.int .i64 C,.slice A n c]] w fun e w'=>e=.returned (.bool b)∧Below w.heap.size w w':=by
 obtain⟨m,hm⟩:∃ m,zay H W C=m:=⟨_,rfl⟩
 have hT:=tens_eq (n:=n) hm hb
 have HM:=hid hm
 have HB0:=hid (((Below.refl w.heap.size w).alloc (le_refl _) (.cells #[.int .i64 H,.int .i64 W,.int .i64 C,.slice A n c] 27)).drew)
 cases hr:zad H W C
 all_goals
  have HR:=hid hr
  rw [hr] at hT
  clear hr hb hm
 ·obtain⟨h0,rfl⟩:=hT
  have HM0:=HM.out
  go_enter Tryz.func13,Tryz.ntmps13
  go_wp2_with fail
  refine wp_region_held_drew (S:=BoxAt w.heap.size H W C A n c) (by kernel_rfl) (BoxAt.new _ _ _ _ _ _ _ _) (fun hHeld=>?_)
  refine Tk.y 0 (v:=?_) rfl ?_ ?_
  rotate_left
  ·intro wS hSw
   obtain⟨s1,s2,s3,s4⟩:=hSw
   first | (go_simp;done) | (go_simp;with_reducible rfl)
  try simp only [Tk.put]
  refine Tk.y 1 (v:=?_) rfl ?_ ?_
  rotate_left
  ·intro wS hSw
   obtain⟨s1,s2,s3,s4⟩:=hSw
   first | (go_simp;done) | (go_simp;with_reducible rfl)
  try simp only [Tk.put]
  refine Tk.s 2 rfl (fun K hK=>?_)
  go_simp
  go_at_call 24
  refine (CShape.zac H W C false HR.out _).mono ?_
  rintro e w1 ⟨rfl,hb1⟩
  have hS1:=hHeld.below (by first | (simp;done) | assumption) hb1
  have hz1:w.heap.size < w1.heap.size:=by have:=hb1.size;first | omega | (simp at this;omega)
  have HB1:=hid (HB0.out.trans (hb1.mono HB0.out.size))
  clear hb1 hHeld
  dsimp only
  refine hK.out _ _ ?_ (fun hHeld=>?_)
  ·exact hS1
  clear hK K
  try simp only [Tk.put]
  refine Tk.x 3 rfl ?_
  try simp only [Tk.put]
  refine Tk.t 4 (v:=undef) rfl (Or.inr ⟨by rfl,rfl⟩) (by assumption) ?_
  try simp only [Tk.put]
  refine Tk.t 5 (v:=undef) rfl (Or.inr ⟨by rfl,rfl⟩) (by assumption) ?_
  try simp only [Tk.put]
  refine Tk.t 6 (v:=undef) rfl (Or.inr ⟨by rfl,rfl⟩) (by assumption) ?_
  try simp only [Tk.put]
  refine Tk.t 7 (v:=undef) rfl (Or.inr ⟨by rfl,rfl⟩) (by assumption) ?_
  try simp only [Tk.put]
  refine Tk.t 8 (v:=undef) rfl (Or.inr ⟨by rfl,rfl⟩) (by assumption) ?_
  try simp only [Tk.put]
  refine Tk.t 9 (v:=undef) rfl (Or.inr ⟨by rfl,rfl⟩) (by assumption) ?_
  try simp only [Tk.put]
  refine Tk.t 10 (v:=undef) rfl (Or.inr ⟨by rfl,rfl⟩) (by assumption) ?_
  try simp only [Tk.put]
  refine Tk.x 11 rfl ?_
  try simp only [Tk.put]
  refine Tk.x 12 rfl ?_
  try simp only [Tk.put]
  refine wpAnyH_done (by kernel_rfl) ?_ _
  go_wp2
  go_ret
  exact⟨rfl,HB1.out⟩
 ·obtain⟨h0,rfl⟩:=hT
  go_enter Tryz.func13,Tryz.ntmps13
  go_wp2_with fail
  refine wp_region_held_drew (S:=BoxAt w.heap.size H W C A n c) (by kernel_rfl) (BoxAt.new _ _ _ _ _ _ _ _) (fun hHeld=>?_)
  refine Tk.y 0 (v:=?_) rfl ?_ ?_
  rotate_left
  ·intro wS hSw
   obtain⟨s1,s2,s3,s4⟩:=hSw
   first | (go_simp;done) | (go_simp;with_reducible rfl)
  try simp only [Tk.put]
  refine Tk.y 1 (v:=?_) rfl ?_ ?_
  rotate_left
  ·intro wS hSw
   obtain⟨s1,s2,s3,s4⟩:=hSw
   first | (go_simp;done) | (go_simp;with_reducible rfl)
  try simp only [Tk.put]
  refine Tk.s 2 rfl (fun K hK=>?_)
  go_simp
  go_at_call 24
  refine (CShape.zac H W C true HR.out _).mono ?_
  rintro e w1 ⟨rfl,hb1⟩
  have hS1:=hHeld.below (by first | (simp;done) | assumption) hb1
  have hz1:w.heap.size < w1.heap.size:=by have:=hb1.size;first | omega | (simp at this;omega)
  have HB1:=hid (HB0.out.trans (hb1.mono HB0.out.size))
  clear hb1 hHeld
  dsimp only
  refine hK.out _ _ ?_ (fun hHeld=>?_)
  ·exact hS1
  clear hK K
  try simp only [Tk.put]
  refine Tk.x 3 rfl ?_
  try simp only [Tk.put]
  refine Tk.y 4 (v:=?_) rfl ?_ ?_
  rotate_left
  ·intro wS hSw
   obtain⟨s1,s2,s3,s4⟩:=hSw
   first | (go_simp;done) | (go_simp;with_reducible rfl)
  try simp only [Tk.put]
  refine Tk.y 5 (v:=?_) rfl ?_ ?_
  rotate_left
  ·intro wS hSw
   obtain⟨s1,s2,s3,s4⟩:=hSw
   first | (go_simp;done) | (go_simp;with_reducible rfl)
  try simp only [Tk.put]
  refine Tk.y 6 (v:=?_) rfl ?_ ?_
  rotate_left
  ·intro wS hSw
   obtain⟨s1,s2,s3,s4⟩:=hSw
   first | (go_simp;done) | (go_simp;with_reducible rfl)
  try simp only [Tk.put]
  refine Tk.y 7 (v:=?_) rfl ?_ ?_
  rotate_left
  ·intro wS hSw
   obtain⟨s1,s2,s3,s4⟩:=hSw
   first | (go_simp;done) | (go_simp;with_reducible rfl)
  try simp only [Tk.put]
  refine Tk.y 8 (v:=?_) rfl ?_ ?_
  rotate_left
  ·intro wS hSw
   obtain⟨s1,s2,s3,s4⟩:=hSw
   first | (go_simp;done) | (go_simp;with_reducible rfl)
  try simp only [Tk.put]
  refine Tk.s 9 rfl (fun K hK=>?_)
  go_simp
  go_at_call 25
  refine (CShape.zbk H W C m HM.out _).mono ?_
  rintro e w2 ⟨rfl,hb2⟩
  have hS2:=hHeld.below (by first | (simp;done) | assumption) hb2
  have hz2:w.heap.size < w2.heap.size:=by have:=hb2.size;first | omega | (simp at this;omega)
  have HB2:=hid (HB1.out.trans (hb2.mono HB1.out.size))
  clear hb2 hHeld
  dsimp only
  refine hK.out _ _ ?_ (fun hHeld=>?_)
  ·exact hS2
  clear hK K
  try simp only [Tk.put]
  refine Tk.x 10 rfl ?_
  try simp only [Tk.put]
  refine Tk.x 11 rfl ?_
  try simp only [Tk.put]
  refine Tk.x 12 rfl ?_
  try simp only [Tk.put]
  refine wpAnyH_done (by kernel_rfl) ?_ _
  go_wp2
  go_ret
  exact⟨rfl,HB2.out⟩
end CTensor
end
end Go.Proofs.YtahekhpeomcfjaaGreatDoor
