/- -/
import Derived.Test.YtoffcaldhojjoaaDoorGVP1
import Derived.Test.YtoffcaldhojjoaaDoorGVP2
open Go.Lib (hid)
open Nat (le_refl lt_of_succ_lt lt_succ_self)
set_option linter.unusedVariables false
set_option linter.unusedSimpArgs false
set_option maxRecDepth 100000
set_option maxHeartbeats 16000000
namespace Go.Proofs.YtoffcaldhojjoaaDoor
namespace CSat
end CSat
open Go Go.ChangeShapes Go.WideShapes Go.ChangeAt Go.RowKit
section
namespace CShape
open Plain CSat
theorem zbh (n lo hi:Int) (h1:lo≤n) (h2:n≤hi) (w:World) :
  Calls Tryd.prog 65 #[.int .i64 n,.int .i64 lo,.int .i64 hi] w fun e w'=>e=.returned (.bool true)∧w=w':=by
 go_enter Tryd.func65,Tryd.ntmps65
 go_wp2
 go_ret
 exact⟨rfl,rfl⟩
theorem within_no (n lo hi:Int) (h:n < lo∨hi < n) (w:World) :
  Calls Tryd.prog 65 #[.int .i64 n,.int .i64 lo,.int .i64 hi] w fun e w'=>e=.returned (.bool false)∧w=w':=by
 by_cases h1:n < lo
 ·have hd:decide (n ≥ lo)=false:=by simp;omega
  go_enter Tryd.func65,Tryd.ntmps65
  go_wp2
  go_ret
  exact⟨rfl,rfl⟩
 ·have h2:hi < n:=by omega
  have hd:decide (n≤hi)=false:=by simp;omega
  go_enter Tryd.func65,Tryd.ntmps65
  go_wp2
  go_ret
  exact⟨rfl,rfl⟩
theorem times_in (a b c:Int) (ha1 : -9223372036854775808≤a) (ha2:a≤9223372036854775807) (hb1 : -9223372036854775808≤b) (hb2:b≤9223372036854775807) (hc:a * b=c) (hc1 : -9223372036854775808≤c) (hc2:c≤9223372036854775807) (w:World) :
  Calls Tryd.prog 82 #[.int .i64 a,.int .i64 b] w fun e w'=>e=.returned (.tuple #[.int .i64 c,.bool true])∧w=w':=by
 subst hc
 have h:=times a b ha1 ha2 hb1 hb2 w
 rw [fitZ_yes hc1 hc2,fits_yes hc1 hc2] at h
 exact h
theorem product (a b c p q:Int) (ha1:1≤a) (ha2:a≤16) (hb1:1≤b) (hb2:b≤16) (hc1:1≤c) (hc2:c≤1024) (hp:a * b=p) (hq:p * c=q) (w:World) :
  Calls Tryd.prog 66 #[.agg #[.int .i64 a,.int .i64 b,.int .i64 c]] w fun e w'=>e=.returned (.tuple #[.int .i64 q,.bool true])∧Below w.heap.size w w':=by
 have hp1:1≤p:=hp ▸ Int.mul_le_mul ha1 hb1 (by omega) (by omega)
 have hp2:p≤256:=hp ▸ Int.mul_le_mul ha2 hb2 (by omega) (by omega)
 have hq1:1≤q:=hq ▸ Int.mul_le_mul hp1 hc1 (by omega) (by omega)
 have hq2:q≤262144:=hq ▸ Int.mul_le_mul hp2 hc2 (by omega) (by omega)
 have HP:=hid hp
 have HQ:=hid hq
 clear hp hq
 go_enter Tryd.func66,Tryd.ntmps66
 go_wp2
 go_loop [4,5,6,7] (fun n ok i t=>(n=.int .i64 1∧t=.int .i64 0)∨(n=.int .i64 a∧t=.int .i64 1)∨(n=.int .i64 p∧t=.int .i64 2)∨(n=.int .i64 q∧t=.int .i64 3)) (fun _ _ _ t=>3 - (intOf t).toNat)
 case atStart=>exact .inl ⟨rfl,rfl⟩
 case round =>
  rcases hrel with ⟨rfl,rfl⟩ | ⟨rfl,rfl⟩ | ⟨rfl,rfl⟩ | ⟨rfl,rfl⟩
  ·go_wp2_with (go_at_call 82;refine (times_in _ _ a (by omega) (by omega) (by omega) (by omega) (by omega) (by omega) (by omega) _).mono ?_;rintro e w' ⟨rfl,rfl⟩)
   go_round
   case rel=>exact .inr (.inl ⟨rfl,rfl⟩)
   case measure=>simp [intOf]
  ·go_wp2_with (go_at_call 82;refine (times_in _ _ p (by omega) (by omega) (by omega) (by omega) HP.out (by omega) (by omega) _).mono ?_;rintro e w' ⟨rfl,rfl⟩)
   go_round
   case rel=>exact .inr (.inr (.inl ⟨rfl,rfl⟩))
   case measure=>simp [intOf]
  ·go_wp2_with (go_at_call 82;refine (times_in _ _ q (by omega) (by omega) (by omega) (by omega) HQ.out (by omega) (by omega) _).mono ?_;rintro e w' ⟨rfl,rfl⟩)
   go_round
   case rel=>exact .inr (.inr (.inr ⟨rfl,rfl⟩))
   case measure=>simp [intOf]
  ·go_wp2
   go_ret2
   exact⟨rfl,(Below.refl _ _).alloc (le_refl _) _⟩
def zad (h w c:Int):Bool:=decide (1≤h∧h≤16∧1≤w∧w≤16∧1≤c∧c≤1024∧h * w * c≤1024)
def zan (h w c:Int):Int:=if zad h w c then h * w * c else 0
theorem prod_bd {h w c:Int} (h1:1≤h) (h2:h≤16) (h3:1≤w) (h4:w≤16) (h5:1≤c) (h6:c≤1024):1≤h * w * c∧h * w * c≤262144:=by
 have a1:1≤h * w:=Int.mul_le_mul h1 h3 (by omega) (by omega)
 have a2:h * w≤256:=Int.mul_le_mul h2 h4 (by omega) (by omega)
 exact⟨Int.mul_le_mul a1 h5 (by omega) (by omega),Int.mul_le_mul a2 h6 (by omega) (by omega)⟩
theorem zaf {h w c:Int} (hs:zad h w c=true):1≤h∧h≤16∧1≤w∧w≤16∧1≤c∧c≤1024∧h * w * c≤1024:=by simpa [zad] using hs
theorem za3 {h w c:Int} (hs:zad h w c=true):zan h w c=h * w * c:=by unfold zan;rw [if_pos hs]
theorem elemsZ_no {h w c:Int} (hs:zad h w c=false):zan h w c=0:=by unfold zan;rw [if_neg (by simp [hs])]
theorem elemsZ_pos (h w c:Int):decide (zan h w c > 0)=zad h w c:=by
 cases hs:zad h w c
 ·rw [elemsZ_no hs];rfl
 ·obtain⟨a1,a2,a3,a4,a5,a6,a7⟩:=zaf hs
  rw [za3 hs]
  have:=prod_bd a1 a2 a3 a4 a5 a6
  simp;omega
theorem elems_yes (h w c n:Int) (h1:1≤h) (h2:h≤16) (h3:1≤w) (h4:w≤16) (h5:1≤c) (h6:c≤1024) (hn:h * w * c=n) (hn1:n≤1024) (W:World) :
  Calls Tryd.prog 51 #[.agg #[.int .i64 h,.int .i64 w,.int .i64 c]] W fun e w'=>e=.returned (.int .i64 n)∧Below W.heap.size W w':=by
 have hb:=prod_bd h1 h2 h3 h4 h5 h6
 rw [hn] at hb
 obtain⟨b1,b2⟩:=hb
 have HN:=hid hn
 clear hn
 go_enter Tryd.func51,Tryd.ntmps51
 go_wp2_with (first
   | (go_at_call 65;refine (zbh _ _ _ (by omega) (by omega) _).mono ?_;rintro e w' ⟨rfl,rfl⟩)
   | (go_at_call 66;refine (product h w c _ n h1 h2 h3 h4 h5 h6 rfl HN.out _).mono ?_;rintro e w1 ⟨rfl,hb⟩))
 go_ret
 exact⟨rfl,((Below.refl _ _).alloc (le_refl _) _).trans (hb.mono (by simp))⟩
theorem elems_many (h w c n:Int) (h1:1≤h) (h2:h≤16) (h3:1≤w) (h4:w≤16) (h5:1≤c) (h6:c≤1024) (hn:h * w * c=n) (hn1:1024 < n) (W:World) :
  Calls Tryd.prog 51 #[.agg #[.int .i64 h,.int .i64 w,.int .i64 c]] W fun e w'=>e=.returned (.int .i64 0)∧Below W.heap.size W w':=by
 have hb:=prod_bd h1 h2 h3 h4 h5 h6
 rw [hn] at hb
 obtain⟨b1,b2⟩:=hb
 have HN:=hid hn
 clear hn
 go_enter Tryd.func51,Tryd.ntmps51
 go_wp2_with (first
   | (go_at_call 65;refine (zbh _ _ _ (by omega) (by omega) _).mono ?_;rintro e w' ⟨rfl,rfl⟩)
   | (go_at_call 66;refine (product h w c _ n h1 h2 h3 h4 h5 h6 rfl HN.out _).mono ?_;rintro e w1 ⟨rfl,hb⟩))
 go_ret
 exact⟨rfl,((Below.refl _ _).alloc (le_refl _) _).trans (hb.mono (by simp))⟩
theorem elems_out (h w c:Int) (hw:(h < 1∨16 < h)∨(1≤h∧h≤16∧(w < 1∨16 < w))∨(1≤h∧h≤16∧1≤w∧w≤16∧(c < 1∨1024 < c))) (W:World) :
  Calls Tryd.prog 51 #[.agg #[.int .i64 h,.int .i64 w,.int .i64 c]] W fun e w'=>e=.returned (.int .i64 0)∧Below W.heap.size W w':=by
 rcases hw with h1 | ⟨h1,h2,h3⟩ | ⟨h1,h2,h3,h4,h5⟩
 all_goals
  go_enter Tryd.func51,Tryd.ntmps51
  go_wp2_with (first
   | (go_at_call 65;refine (zbh _ _ _ (by omega) (by omega) _).mono ?_;rintro e w' ⟨rfl,rfl⟩)
   | (go_at_call 65;refine (within_no _ _ _ (by omega) _).mono ?_;rintro e w' ⟨rfl,rfl⟩))
  go_ret
  exact⟨rfl,(Below.refl _ _).alloc (le_refl _) _⟩
theorem elems_to (h w c n:Int) (hn:zan h w c=n) (W:World) :
  Calls Tryd.prog 51 #[.agg #[.int .i64 h,.int .i64 w,.int .i64 c]] W fun e w'=>e=.returned (.int .i64 n)∧Below W.heap.size W w':=by
 cases hs:zad h w c
 ·rw [elemsZ_no hs] at hn
  subst hn
  by_cases hi:1≤h∧h≤16∧1≤w∧w≤16∧1≤c∧c≤1024
  ·obtain⟨a1,a2,a3,a4,a5,a6⟩:=hi
   exact elems_many h w c _ a1 a2 a3 a4 a5 a6 rfl (by simp [zad] at hs;omega) W
  ·exact elems_out h w c (by omega) W
 ·obtain⟨a1,a2,a3,a4,a5,a6,a7⟩:=zaf hs
  rw [za3 hs] at hn
  exact elems_yes h w c n a1 a2 a3 a4 a5 a6 hn (hn ▸ a7) W
theorem zaj (h w c:Int) (b:Bool) (hb:zad h w c=b) (W:World) :
  Calls Tryd.prog 30 #[.agg #[.int .i64 h,.int .i64 w,.int .i64 c]] W fun e w'=>e=.returned (.bool b)∧Below W.heap.size W w':=by
 obtain⟨n,hn⟩:∃ n,zan h w c=n:=⟨_,rfl⟩
 have hd:decide (n > 0)=b:=by rw [← hn,elemsZ_pos,hb]
 have HN:=hid hn
 clear hn
 go_enter Tryd.func30,Tryd.ntmps30
 go_wp2_with (go_at_call 51;refine (elems_to _ _ _ n HN.out _).mono ?_;rintro e w1 ⟨rfl,hb⟩)
 go_ret
 exact⟨rfl,((Below.refl _ _).alloc (le_refl _) _).trans (hb.mono (by simp))⟩
end CShape
end
end Go.Proofs.YtoffcaldhojjoaaDoor
