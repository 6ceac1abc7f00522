/- -/
import Derived.Shelf.Bits.Mul64
import Derived.Lib.SliceRun
import Derived.Laws.CopyOwn
import Derived.Test.YtchpdhhpkljdhaaGreatDoorGD3
open Go.Value renaming int→Jj
open Go.IntKind renaming i64→Jq
namespace Go.Proofs.YtchpdhhpkljdhaaGreatDoor.CSat
end Go.Proofs.YtchpdhhpkljdhaaGreatDoor.CSat
section
namespace Go.Proofs
open Go.Shelf
def Tryz.lays264_ren:Go.Shelf.Ren:=⟨fun | 264=>146 | n=>n,fun | 53=>183 | 46=>187 | n=>n,fun | n=>n⟩
theorem Tryz.lays264:Go.Proofs.Lays.n264 Tryz.prog Tryz.lays264_ren := {
 mixed:=by kernel_rfl
 f264:=Tryz.func146.trans (congrArg some Zb5)
 t46:=Tryz.underlying187
 a46:=Tryz.isAgg187
 z46:=Tryz.sizeOf187
 v46:=Tryz.zeroValue187
 t53:=Tryz.underlying183
 a53:=Tryz.isAgg183
 z53:=Tryz.sizeOf183
 v53:=Tryz.zeroValue183 }
open Go.RowKit Go.Lib in
theorem Tryz.bits_Mul64 (x y:Nat) (hx:x < 18446744073709551616) (hy:y < 18446744073709551616) (w:World) :
  Calls Tryz.prog 146 #[.int .u64 x,.int .u64 y] w fun e w'=>e=.returned (.tuple #[.int .u64 ((x * y / 18446744073709551616:Nat):Int),.int .u64 ((x * y % 18446744073709551616:Nat):Int)])∧w'=w:=Any.bits_Mul64 Tryz.lays264 x y hx hy w
def Tryz.lays212_ren:Go.Shelf.Ren:=⟨fun | 212=>149 | 263=>154 | 264=>146 | n=>n,fun | 46=>187 | 51=>195 | 146=>196 | 53=>183 | 148=>184 | n=>n,fun | n=>n⟩
theorem Tryz.lays212:Go.Proofs.Lays.n212 Tryz.prog Tryz.lays212_ren := {
 mixed:=by kernel_rfl
 f212:=Tryz.func149.trans (congrArg some Zb5)
 f263:=Tryz.func154.trans (congrArg some Zb5)
 f264:=Tryz.func146.trans (congrArg some Zb5)
 t46:=Tryz.underlying187
 a46:=Tryz.isAgg187
 z46:=Tryz.sizeOf187
 v46:=Tryz.zeroValue187
 t51:=Tryz.underlying195
 a51:=Tryz.isAgg195
 z51:=Tryz.sizeOf195
 v51:=Tryz.zeroValue195
 t53:=Tryz.underlying183
 a53:=Tryz.isAgg183
 z53:=Tryz.sizeOf183
 v53:=Tryz.zeroValue183
 t146:=Tryz.underlying196
 a146:=Tryz.isAgg196
 z146:=Tryz.sizeOf196
 v146:=Tryz.zeroValue196
 t148:=Tryz.underlying184
 a148:=Tryz.isAgg184
 z148:=Tryz.sizeOf184
 v148:=Tryz.zeroValue184 }
open Go.RowKit Go.Lib in
theorem Tryz.bits_Mul (x y:Nat) (hx:x < 18446744073709551616) (hy:y < 18446744073709551616) (w:World) :
  Calls Tryz.prog 149 #[.int .u64 x,.int .u64 y] w fun e w'=>e=.returned (.tuple #[.int .u64 ((x * y / 18446744073709551616:Nat):Int),.int .u64 ((x * y % 18446744073709551616:Nat):Int)])∧w'=w:=Any.bits_Mul Tryz.lays212 x y hx hy w
end Go.Proofs
end
section
namespace Go.Proofs.YtchpdhhpkljdhaaGreatDoor.CSat
open Go.ChangeShapes Go.WideShapes Go.ChangeAt Go.RowKit
open Plain
set_option linter.unusedVariables false
theorem zb5 {k:IntKind} {a b:Int} (h:a=b):Ending.returned (.int k a)=.returned (.int k b):=by rw [h]
theorem clamp (v lo hi:Int) (hl1 : -128≤lo) (hl2:lo≤127) (hh1 : -128≤hi) (hh2:hi≤127) (w:World) :
  Calls Tryz.prog 137 #[Jj Jq v,.int .i8 lo,.int .i8 hi] w fun e w'=>e=.returned (.int .i8 (zcd v lo hi))∧w=w':=by
 by_cases h1:v < lo
 ·go_enter Tryz.func137,Tryz.ntmps137
  exact Z2o
 ·by_cases h2:v > hi
  ·go_enter Tryz.func137,Tryz.ntmps137
   exact Z2e
  ·go_enter Tryz.func137,Tryz.ntmps137
   exact Z2f
theorem mul_bd (a b:Int) (ha1 : -2147483648≤a) (ha2:a≤2147483647) (hb1 : -2147483648≤b) (hb2:b≤2147483647) : -4611686018427387904≤a * b∧a * b≤4611686018427387904:=by
 have h:(a * b).natAbs≤2147483648 * 2147483648:=by
  rw [Int.natAbs_mul];exact Nat.mul_le_mul Zb3 Zb3
 omega
theorem size (a:Int) (ha1 : -9223372036854775808≤a) (ha2:a≤9223372036854775807) (w:World) :
  Calls Tryz.prog 147 #[Jj Jq a] w fun e w'=>e=.returned (.int .u64 (a.natAbs:Int))∧w=w':=by
 by_cases h:a < 0
 ·have hx:IntKind.u64.wrap a=a+18446744073709551616:=by rw [IntKind.wrap_u64];omega
  go_enter Tryz.func147,Tryz.ntmps147
  go_wp2
  go_ret
  exact⟨zb5 (by rw [IntKind.wrap_u64];omega),rfl⟩
 ·go_enter Tryz.func147,Tryz.ntmps147
  go_wp2
  go_ret
  exact⟨zb5 Zb3,rfl⟩
theorem zb2 (x y P:Nat) (hx:x < 18446744073709551616) (hy:y < 18446744073709551616) (hP:P=x * y) (h:P < 18446744073709551616) (w:World) :
  Calls Tryz.prog 146 #[.int .u64 x,.int .u64 y] w fun e w'=>e=.returned (.tuple #[.int .u64 0,.int .u64 (P:Int)])∧w=w':=by
 refine (Tryz.bits_Mul64 x y hx hy w).mono fun e w' he=>?_
 rw [← hP,Nat.div_eq_of_lt h,Nat.mod_eq_of_lt h] at he
 exact⟨he.1,he.2.symm⟩
def BigHigh (w:World) (e:Ending) (w':World):Prop:=∃ h l:Int,1≤h∧(h != 0)=true∧e=.returned (.tuple #[.int .u64 h,.int .u64 l])∧w=w'
theorem mul64_big (x y:Nat) (hx:x < 18446744073709551616) (hy:y < 18446744073709551616) (h:18446744073709551616≤x * y) (w:World) :
  Calls Tryz.prog 146 #[.int .u64 x,.int .u64 y] w (BigHigh w):=by
 refine (Tryz.bits_Mul64 x y hx hy w).mono fun e w' he=>?_
 have h1:1≤x * y / 18446744073709551616:=(Nat.le_div_iff_mul_le Zb3).2 Zb3
 generalize x * y / 18446744073709551616=q at h1 he
 exact⟨q,_,by omega,by rw [bne_iff_ne];omega,he.1,he.2.symm⟩
theorem abs_mul (a b:Int):(a * b).natAbs=a.natAbs * b.natAbs:=Int.natAbs_mul a b
theorem neg_back (P:Nat) (h:P≤9223372036854775808):Ending.returned (.tuple #[Jj Jq (wrap64 (IntKind.u64.wrap (-(P:Int)))),.bool true])=Ending.returned (.tuple #[Jj Jq (-(P:Int)),.bool true]):=by
 have:wrap64 (IntKind.u64.wrap (-(P:Int))) = -(P:Int):=by rw [IntKind.wrap_u64];unfold wrap64;omega
 rw [this]
theorem times (a b:Int) (ha1 : -9223372036854775808≤a) (ha2:a≤9223372036854775807) (hb1 : -9223372036854775808≤b) (hb2:b≤9223372036854775807) (w:World) :
  Calls Tryz.prog 133 #[Jj Jq a,Jj Jq b] w fun e w'=>e=.returned (.tuple #[Jj Jq (fitZ (a * b)),.bool (fits (a * b))])∧w=w':=by
 have hm:=abs_mul a b
 have hA:a.natAbs < 18446744073709551616:=by omega
 have hB:b.natAbs < 18446744073709551616:=by omega
 by_cases hbig:18446744073709551616≤a.natAbs * b.natAbs
 ·have h2:a * b < -9223372036854775808∨9223372036854775807 < a * b:=by omega
  rw [fitZ_no h2,fits_no h2]
  have H:=Lib.hid hbig
  clear hm h2 hbig
  go_enter Tryz.func133,Tryz.ntmps133
  go_wp2_with (first | (go_at_call 147;refine (size _ Zb3 Zb3 _).mono ?_;rintro e w' ⟨rfl,rfl⟩) | (go_at_call 146;refine (mul64_big _ _ hA hB H.out _).mono ?_;rintro e w' ⟨h,l,h1,h2,rfl,rfl⟩))
  go_ret2
  exact⟨rfl,rfl⟩
 ·obtain⟨P,hP⟩:∃ P,P=a.natAbs * b.natAbs:=⟨_,rfl⟩
  have hsm:P < 18446744073709551616:=by omega
  have key:(((a < 0)=(b < 0))→a * b=P)∧(((a < 0)≠(b < 0))→a * b = - (P:Int)):=by
   have hs:(a * b=P)∨(a * b = -(P:Int)):=by omega
   constructor
   ·intro hsg
    by_cases ha:a < 0
    ·have hb:b < 0:=hsg ▸ ha
     have:=Int.mul_pos_of_neg_of_neg ha hb
     omega
    ·have hb:¬ b < 0:=hsg ▸ ha
     have:=Int.mul_nonneg (Int.not_lt.1 ha) (Int.not_lt.1 hb)
     omega
   ·intro hsg
    by_cases ha:a < 0
    ·have hb:¬ b < 0:=fun h=>hsg (by simp [ha,h])
     have:=Int.mul_nonpos_of_nonpos_of_nonneg (Int.le_of_lt ha) (Int.not_lt.1 hb)
     omega
    ·have hb:b < 0:=by
      by_cases hb:b < 0
      ·exact hb
      ·exact absurd (by simp [ha,hb]) hsg
     have:=Int.mul_nonpos_of_nonneg_of_nonpos (Int.not_lt.1 ha) (Int.le_of_lt hb)
     omega
  obtain⟨k1,k2⟩:=key
  clear hm hbig
  have H:=Lib.hid hP
  clear hP
  by_cases ha:a < 0 <;> by_cases hb:b < 0
  ·rw [k1 (by simp [ha,hb])];clear k1 k2
   have da:decide (a < 0)=true:=by simp;omega
   have db:decide (b < 0)=true:=by simp;omega
   exact Z4z
  ·rw [k2 (by simp [ha,hb])];clear k1 k2
   have da:decide (a < 0)=true:=by simp;omega
   have db:decide (b < 0)=false:=by simp;omega
   exact Z5i
  ·rw [k2 (by simp [ha,hb])];clear k1 k2
   have da:decide (a < 0)=false:=by simp;omega
   have db:decide (b < 0)=true:=by simp;omega
   exact Z5i
  ·rw [k1 (by simp [ha,hb])];clear k1 k2
   have da:decide (a < 0)=false:=by simp;omega
   have db:decide (b < 0)=false:=by simp;omega
   exact Z4z
end Go.Proofs.YtchpdhhpkljdhaaGreatDoor.CSat
end
section
namespace Go.Proofs.YtchpdhhpkljdhaaGreatDoor.CShape
open Go Go.ChangeShapes Go.WideShapes Go.ChangeAt Go.RowKit
open Plain CSat
set_option linter.unusedVariables false
theorem zca (n lo hi:Int) (h1:lo≤n) (h2:n≤hi) (w:World) :
  Calls Tryz.prog 96 #[Jj Jq n,Jj Jq lo,Jj Jq hi] w fun e w'=>e=.returned (.bool true)∧w=w':=by
 exact Z2m
theorem within_no (n lo hi:Int) (h:n < lo∨hi < n) (w:World) :
  Calls Tryz.prog 96 #[Jj Jq n,Jj Jq lo,Jj Jq hi] w fun e w'=>e=.returned (.bool false)∧w=w':=by
 by_cases h1:n < lo
 ·have hd:decide (n ≥ lo)=false:=by simp;omega
  exact Z2m
 ·have h2:hi < n:=by omega
  have hd:decide (n≤hi)=false:=by simp;omega
  exact Z2m
theorem times_in (a b c:Int) (ha1 : -9223372036854775808≤a) (ha2:a≤9223372036854775807) (hb1 : -9223372036854775808≤b) (hb2:b≤9223372036854775807) (hc:a * b=c) (hc1 : -9223372036854775808≤c) (hc2:c≤9223372036854775807) (w:World) :
  Calls Tryz.prog 133 #[Jj Jq a,Jj Jq b] w fun e w'=>e=.returned (.tuple #[Jj Jq c,.bool true])∧w=w':=by
 subst hc
 have h:=times a b ha1 ha2 hb1 hb2 w
 rw [fitZ_yes hc1 hc2,fits_yes hc1 hc2] at h
 exact h
theorem product (a b c p q:Int) (ha1:1≤a) (ha2:a≤16) (hb1:1≤b) (hb2:b≤16) (hc1:1≤c) (hc2:c≤1024) (hp:a * b=p) (hq:p * c=q) (w:World) :
  Calls Tryz.prog 97 #[.agg #[Jj Jq a,Jj Jq b,Jj Jq c]] w fun e w'=>e=.returned (.tuple #[Jj Jq q,.bool true])∧Below w.heap.size w w':=by
 have hp1:1≤p:=hp ▸ Int.mul_le_mul ha1 hb1 Zb3 Zb3
 have hp2:p≤256:=hp ▸ Int.mul_le_mul ha2 hb2 Zb3 Zb3
 have hq1:1≤q:=hq ▸ Int.mul_le_mul hp1 hc1 Zb3 Zb3
 have hq2:q≤262144:=hq ▸ Int.mul_le_mul hp2 hc2 Zb3 Zb3
 have HP:=Lib.hid hp
 have HQ:=Lib.hid hq
 clear hp hq
 go_enter Tryz.func97,Tryz.ntmps97
 go_wp2
 go_loop [4,5,6,7] (fun n ok i t=>(n=Jj Jq 1∧t=Jj Jq 0)∨(n=Jj Jq a∧t=Jj Jq 1)∨(n=Jj Jq p∧t=Jj Jq 2)∨(n=Jj Jq q∧t=Jj Jq 3)) (fun _ _ _ t=>3 - (intOf t).toNat)
 case atStart=>exact .inl ⟨rfl,rfl⟩
 case round =>
  rcases hrel with ⟨rfl,rfl⟩ | ⟨rfl,rfl⟩ | ⟨rfl,rfl⟩ | ⟨rfl,rfl⟩
  ·go_wp2_with (go_at_call 133;refine (times_in _ _ a Zb3 Zb3 Zb3 Zb3 Zb3 Zb3 Zb3 _).mono ?_;rintro e w' ⟨rfl,rfl⟩)
   go_round
   case rel=>exact .inr (.inl ⟨rfl,rfl⟩)
   case measure=>simp [intOf]
  ·go_wp2_with (go_at_call 133;refine (times_in _ _ p Zb3 Zb3 Zb3 Zb3 HP.out Zb3 Zb3 _).mono ?_;rintro e w' ⟨rfl,rfl⟩)
   go_round
   case rel=>exact .inr (.inr (.inl ⟨rfl,rfl⟩))
   case measure=>simp [intOf]
  ·go_wp2_with (go_at_call 133;refine (times_in _ _ q Zb3 Zb3 Zb3 Zb3 HQ.out Zb3 Zb3 _).mono ?_;rintro e w' ⟨rfl,rfl⟩)
   go_round
   case rel=>exact .inr (.inr (.inr ⟨rfl,rfl⟩))
   case measure=>simp [intOf]
  ·go_wp2
   go_ret2
   exact⟨rfl,(Below.refl _ _).alloc (Nat.le_refl _) _⟩
def zam (h w c:Int):Bool:=decide (1≤h∧h≤16∧1≤w∧w≤16∧1≤c∧c≤1024∧h * w * c≤1024)
def zaz (h w c:Int):Int:=if zam h w c then h * w * c else 0
theorem zcs {h w c:Int} (h1:1≤h) (h2:h≤16) (h3:1≤w) (h4:w≤16) (h5:1≤c) (h6:c≤1024):1≤h * w * c∧h * w * c≤262144:=by
 have a1:1≤h * w:=Int.mul_le_mul h1 h3 Zb3 Zb3
 have a2:h * w≤256:=Int.mul_le_mul h2 h4 Zb3 Zb3
 exact⟨Int.mul_le_mul a1 h5 Zb3 Zb3,Int.mul_le_mul a2 h6 Zb3 Zb3⟩
theorem zac {h w c:Int} (hs:zam h w c=true):1≤h∧h≤16∧1≤w∧w≤16∧1≤c∧c≤1024∧h * w * c≤1024:=by simpa [zam] using hs
theorem zay {h w c:Int} (hs:zam h w c=true):zaz h w c=h * w * c:=by unfold zaz;rw [if_pos hs]
theorem zb6 {h w c:Int} (hs:zam h w c=false):zaz h w c=0:=by unfold zaz;rw [if_neg (by simp [hs])]
theorem elemsZ_bd (h w c:Int):0≤zaz h w c∧zaz h w c≤1024:=by
 unfold zaz
 split
 ·rename_i hs
  obtain⟨a1,a2,a3,a4,a5,a6,a7⟩:=zac hs
  have:=zcs a1 a2 a3 a4 a5 a6
  omega
 ·omega
theorem elemsZ_pos (h w c:Int):decide (zaz h w c > 0)=zam h w c:=by
 cases hs:zam h w c
 ·rw [zb6 hs];rfl
 ·obtain⟨a1,a2,a3,a4,a5,a6,a7⟩:=zac hs
  rw [zay hs]
  have:=zcs a1 a2 a3 a4 a5 a6
  simp;omega
theorem elems_yes (h w c n:Int) (h1:1≤h) (h2:h≤16) (h3:1≤w) (h4:w≤16) (h5:1≤c) (h6:c≤1024) (hn:h * w * c=n) (hn1:n≤1024) (W:World) :
  Calls Tryz.prog 44 #[.agg #[Jj Jq h,Jj Jq w,Jj Jq c]] W fun e w'=>e=.returned (Jj Jq n)∧Below W.heap.size W w':=by
 exact Z1j
theorem elems_many (h w c n:Int) (h1:1≤h) (h2:h≤16) (h3:1≤w) (h4:w≤16) (h5:1≤c) (h6:c≤1024) (hn:h * w * c=n) (hn1:1024 < n) (W:World) :
  Calls Tryz.prog 44 #[.agg #[Jj Jq h,Jj Jq w,Jj Jq c]] W fun e w'=>e=.returned (Jj Jq 0)∧Below W.heap.size W w':=by
 exact Z1j
theorem elems_out (h w c:Int) (hw:(h < 1∨16 < h)∨(1≤h∧h≤16∧(w < 1∨16 < w))∨(1≤h∧h≤16∧1≤w∧w≤16∧(c < 1∨1024 < c))) (W:World) :
  Calls Tryz.prog 44 #[.agg #[Jj Jq h,Jj Jq w,Jj Jq c]] W fun e w'=>e=.returned (Jj Jq 0)∧Below W.heap.size W w':=by
 rcases hw with h1 | ⟨h1,h2,h3⟩ | ⟨h1,h2,h3,h4,h5⟩
 all_goals
  go_enter Tryz.func44,Tryz.ntmps44
  go_wp2_with (first
   | (go_at_call 96;refine (zca _ _ _ Zb3 Zb3 _).mono ?_;rintro e w' ⟨rfl,rfl⟩)
   | (go_at_call 96;refine (within_no _ _ _ Zb3 _).mono ?_;rintro e w' ⟨rfl,rfl⟩))
  go_ret
  exact⟨rfl,(Below.refl _ _).alloc (Nat.le_refl _) _⟩
theorem zb3 (h w c n:Int) (hn:zaz h w c=n) (W:World) :
  Calls Tryz.prog 44 #[.agg #[Jj Jq h,Jj Jq w,Jj Jq c]] W fun e w'=>e=.returned (Jj Jq n)∧Below W.heap.size W w':=by
 cases hs:zam h w c
 ·rw [zb6 hs] at hn
  subst hn
  by_cases hi:1≤h∧h≤16∧1≤w∧w≤16∧1≤c∧c≤1024
  ·obtain⟨a1,a2,a3,a4,a5,a6⟩:=hi
   exact elems_many h w c _ a1 a2 a3 a4 a5 a6 rfl (by simp [zam] at hs;omega) W
  ·exact elems_out h w c Zb3 W
 ·obtain⟨a1,a2,a3,a4,a5,a6,a7⟩:=zac hs
  rw [zay hs] at hn
  exact elems_yes h w c n a1 a2 a3 a4 a5 a6 hn (hn ▸ a7) W
theorem zak (h w c:Int) (b:Bool) (hb:zam h w c=b) (W:World) :
  Calls Tryz.prog 43 #[.agg #[Jj Jq h,Jj Jq w,Jj Jq c]] W fun e w'=>e=.returned (.bool b)∧Below W.heap.size W w':=by
 obtain⟨n,hn⟩:∃ n,zaz h w c=n:=⟨_,rfl⟩
 have hd:decide (n > 0)=b:=by rw [← hn,elemsZ_pos,hb]
 have HN:=Lib.hid hn
 clear hn
 go_enter Tryz.func43,Tryz.ntmps43
 go_wp2_with (go_at_call 44;refine (zb3 _ _ _ n HN.out _).mono ?_;rintro e w1 ⟨rfl,hb⟩)
 go_ret
 exact Z1n
def inB (H W C h w c:Int):Bool:=zam H W C && decide (0≤h∧h < H∧0≤w∧w < W∧0≤c∧c < C)
theorem at_bd {H W C h w c:Int} (hs:zam H W C=true) (h1:0≤h) (h2:h < H) (w1:0≤w) (w2:w < W) (c1:0≤c) (c2:c < C) :
  0≤h * W∧h * W≤256∧0≤(h * W+w) * C∧(h * W+w) * C+c < H * W * C∧H * W * C≤1024:=by
 obtain⟨a1,a2,a3,a4,a5,a6,a7⟩:=zac hs
 have b1:0≤h * W:=Int.mul_nonneg h1 Zb3
 have b2:h * W≤15 * 16:=Int.mul_le_mul Zb3 a4 Zb3 Zb3
 have b3:0≤(h * W+w) * C:=Int.mul_nonneg Zb3 Zb3
 have b4:(h+1) * W≤H * W:=Int.mul_le_mul_of_nonneg_right Zb3 Zb3
 have b5:h * W+w+1≤H * W:=by rw [Int.add_mul,Int.one_mul] at b4;omega
 have b6:(h * W+w+1) * C≤H * W * C:=Int.mul_le_mul_of_nonneg_right b5 Zb3
 rw [Int.add_mul,Int.one_mul] at b6
 omega
theorem index_yes (H W C h w c p:Int) (hs:zam H W C=true) (h1:0≤h) (h2:h < H) (w1:0≤w) (w2:w < W) (c1:0≤c) (c2:c < C) (hp:(h * W+w) * C+c=p) (wd:World) :
  Calls Tryz.prog 130 #[.agg #[Jj Jq H,Jj Jq W,Jj Jq C],Jj Jq h,Jj Jq w,Jj Jq c] wd fun e w'=>e=.returned (.tuple #[Jj Jq p,.bool true])∧Below wd.heap.size wd w':=by
 obtain⟨b1,b2,b3,b4,b5⟩:=at_bd hs h1 h2 w1 w2 c1 c2
 obtain⟨a1,a2,a3,a4,a5,a6,a7⟩:=zac hs
 have b6:(h * W+w) * C+c < 1024:=by omega
 subst hp
 have HS:=Lib.hid hs
 clear hs b4 b5 a7
 go_enter Tryz.func130,Tryz.ntmps130
 go_wp2_with (first
   | (go_at_call 96;refine (zca _ _ _ Zb3 Zb3 _).mono ?_;rintro e w' ⟨rfl,rfl⟩)
   | (go_at_call 43;refine (zak _ _ _ _ HS.out _).mono ?_;rintro e w1 ⟨rfl,hb⟩;obtain⟨hc,hf⟩:=Kit.bcell hb))
 go_ret2
 exact Z1n
theorem index_no (H W C h w c:Int) (hs:inB H W C h w c=false) (wd:World) :
  Calls Tryz.prog 130 #[.agg #[Jj Jq H,Jj Jq W,Jj Jq C],Jj Jq h,Jj Jq w,Jj Jq c] wd fun e w'=>e=.returned (.tuple #[Jj Jq 0,.bool false])∧Below wd.heap.size wd w':=by
 cases hr:zam H W C
 ·have HS:=Lib.hid hr
  clear hs hr
  go_enter Tryz.func130,Tryz.ntmps130
  go_wp2_with (go_at_call 43;refine (zak _ _ _ _ HS.out _).mono ?_;rintro e w1 ⟨rfl,hb⟩;obtain⟨hc,hf⟩:=Kit.bcell hb)
  go_ret2
  exact Z1n
 ·have h0:(h < 0∨H - 1 < h)∨(0≤h∧h≤H - 1∧(w < 0∨W - 1 < w))∨(0≤h∧h≤H - 1∧0≤w∧w≤W - 1∧(c < 0∨C - 1 < c)):=by
   simp [inB,hr] at hs;omega
  obtain⟨a1,a2,a3,a4,a5,a6,a7⟩:=zac hr
  have HS:=Lib.hid hr
  clear hs hr a7
  rcases h0 with h1 | ⟨h1,h2,h3⟩ | ⟨h1,h2,h3,h4,h5⟩
  all_goals
   go_enter Tryz.func130,Tryz.ntmps130
   go_wp2_with (first
    | (go_at_call 96;refine (zca _ _ _ Zb3 Zb3 _).mono ?_;rintro e w' ⟨rfl,rfl⟩)
    | (go_at_call 96;refine (within_no _ _ _ Zb3 _).mono ?_;rintro e w' ⟨rfl,rfl⟩)
    | (go_at_call 43;refine (zak _ _ _ _ HS.out _).mono ?_;rintro e w1 ⟨rfl,hb⟩;obtain⟨hc,hf⟩:=Kit.bcell hb))
   go_ret2
   exact Z1n
end Go.Proofs.YtchpdhhpkljdhaaGreatDoor.CShape
end
section
namespace Go.Proofs.YtchpdhhpkljdhaaGreatDoor.CTensor
open Go Go.ChangeShapes Go.WideShapes Go.ChangeAt Go.RowKit
open Plain CSat CShape
set_option linter.unusedVariables false
def I8s (zs:List Int):List Value:=zs.map (.int .i8)
def Owned (w:World) (n:Nat) (xs:List Value) (e:Ending) (w':World):Prop :=
 ∃ v,e=.returned v∧w'.ownsRow w.heap.size 22 1 v n xs∧Below w.heap.size w w'
theorem info_i8:(Tryz.prog.info? 22).map (fun i=>(i.zero,i.size,i.bytes))=some (some (.int .i8 0),1,1):=by kernel_rfl
theorem sclone (A:Option Addr) (zs:List Int) (n c:Nat) (hn:zs.length=n) (hl:n≤1000000) {B:Nat} (w:World) (hB:B≤w.heap.size) (hr:Kit.Rd w B A (zs.map (.int .i8))) :
  Calls Tryz.prog 140 #[.slice A n c] w (Owned w n (I8s zs)):=by
 have HN:=Lib.hid hn
 have HR:=Lib.hid hr
 have qn:∀ (w:World) (a:Option Addr) (n c n' c':Nat),(binOp .eql 23 (.slice a n c) (.slice none n' c')).run Tryz.prog w=.ok (.bool a.isNone) w:=fun w a n c n' c'=>Lib.run_eql_slice_nil w _ _ a n c n' c' Tryz.underlying23
 cases A with
 | none =>
   have hz:zs=[]:=by
    cases zs with
    | nil=>rfl
    | cons z zs=>obtain⟨b,off,h,_⟩:=hr.plain Zb7;cases h
   subst hz
   have h0:n=0:=by simpa using hn.symm
   subst h0
   clear hn hr HN HR
   go_enter Tryz.func140,Tryz.ntmps140
   go_wp2
   go_ret
   exact⟨_,rfl,⟨by simp [I8s],.inl ⟨rfl,rfl⟩⟩,Below.refl _ _⟩
 | some ad =>
   clear hn hr
   go_enter Tryz.func140,Tryz.ntmps140
   obtain⟨i0,hi0,hi1,hi2,hi3⟩:=info_parts info_i8
   go_wp2_with (at_builtin;refine Kit.zbb _ rfl (.tmp 5) (.tmp 6) _ rfl w.heap.size 22 i0 (.int .i8 0) 1 1 Tryz.underlying23 hi0 hi1 hi2 hi3 rfl Zbc (.slice (some ⟨_,0,none⟩) 0 0) 0 [] rfl (World.ownsRow_lit _ #[] 0 (Nat.le_refl _) (Nat.zero_le _) rfl) _ _ n _ (I8s zs) rfl (by simp [I8s,HN.out]) (HR.out.alloc hB _) (Kit.za5 .i8 zs) (by unfold maxLen;omega) Zb3 Zb7 ?_;intro v1 w1 hown1 hg1 hat1;replace hown1:w1.ownsRow w.heap.size 22 1 v1 n (I8s zs):=(by simpa using hown1);have HO:=Lib.hid hown1;have HX:=Lib.hid (((Below.refl _ w).alloc (Nat.le_refl _) (.cells #[] 22)).grown hg1 Zb7 (fun q hq=>by simp [Value.ownBlock] at hq;omega));clear hown1 hg1 hat1)
   go_ret
   exact⟨_,rfl,HO.out,HX.out⟩
def tensB (H W C:Int) (n:Nat):Bool:=zam H W C && decide ((n:Int)=H * W * C)
def BoxAt (B:Nat) (H W C:Int) (A:Option Addr) (n c:Nat) (wd:World):Prop :=
 wd.cell? ⟨B,0,none⟩=some (Jj Jq H)∧wd.cell? ⟨B,1,none⟩=some (Jj Jq W)∧wd.cell? ⟨B,2,none⟩=some (Jj Jq C)∧wd.cell? ⟨B,3,none⟩=some (.slice A n c)
theorem BoxAt.new (H W C:Int) (A:Option Addr) (n c:Nat) (T:TypeId) (w:World):BoxAt w.heap.size H W C A n c (w.alloc (.cells #[Jj Jq H,Jj Jq W,Jj Jq C,.slice A n c] T)).drew :=
 ⟨Kit.zan _ _ _ _,Kit.zan _ _ _ _,Kit.zan _ _ _ _,Kit.zan _ _ _ _⟩
theorem BoxAt.below {B B':Nat} {H W C:Int} {A:Option Addr} {n c:Nat} {w w':World} (h:BoxAt B H W C A n c w) (hB:B < B') (hb:Below B' w w'):BoxAt B H W C A n c w' :=
 ⟨(hb.cell (p:=⟨B,0,none⟩) hB).trans h.1,(hb.cell (p:=⟨B,1,none⟩) hB).trans h.2.1,(hb.cell (p:=⟨B,2,none⟩) hB).trans h.2.2.1,(hb.cell (p:=⟨B,3,none⟩) hB).trans h.2.2.2⟩
theorem tens_eq {H W C m:Int} {n:Nat} {b:Bool} (hm:zaz H W C=m) (hb:tensB H W C n=b):(if zam H W C=true then 0 < m∧((n:Int) == m)=b else m=0∧false=b):=by
 cases hr:zam H W C
 ·rw [zb6 hr] at hm
  subst hm hb
  simp [tensB,hr]
 ·have:=elemsZ_pos H W C
  rw [hr,hm] at this
  rw [zay hr] at hm
  subst hb
  simp at this
  rw [if_pos rfl]
  refine⟨this,?_⟩
  rw [tensB,hr,hm,Bool.true_and]
  rfl
theorem bool_comm (a b:Int):Ending.returned (.bool (a == b))=.returned (.bool (b == a)):=by rw [BEq.comm]
theorem zak (H W C:Int) (A:Option Addr) (n c:Nat) (b:Bool) (hb:tensB H W C n=b) (w:World) :
  Calls Tryz.prog 13 #[.agg #[Jj Jq H,Jj Jq W,Jj Jq C,.slice A n c]] w fun e w'=>e=.returned (.bool b)∧Below w.heap.size w w':=by
 obtain⟨m,hm⟩:∃ m,zaz H W C=m:=⟨_,rfl⟩
 have hT:=tens_eq (n:=n) hm hb
 have HM:=Lib.hid hm
 have HB0:=Lib.hid (((Below.refl w.heap.size w).alloc (Nat.le_refl _) (.cells #[Jj Jq H,Jj Jq W,Jj Jq C,.slice A n c] 32)).drew)
 cases hr:zam H W C
 all_goals
  have HR:=Lib.hid hr
  rw [hr] at hT
  clear hr hb hm
 ·obtain⟨h0,rfl⟩:=hT
  have HM0:=HM.out
  go_enter Tryz.func13,Tryz.ntmps13
  go_wp2_with fail
  refine wp_region_held_drew (S:=BoxAt w.heap.size H W C A n c) Zb5 (BoxAt.new _ _ _ _ _ _ _ _) (fun hHeld=>?_)
  refine Tk.y 0 (v:=?_) rfl ?_ ?_
  rotate_left
  ·exact Z3d
  refine Z5y ?_
  refine Tk.y 1 (v:=?_) rfl ?_ ?_
  rotate_left
  ·exact Z3d
  refine Z5y ?_
  refine Tk.s 2 rfl (fun K hK=>?_)
  go_simp
  go_at_call 43
  refine (CShape.zak H W C false HR.out _).mono ?_
  rintro e w1 ⟨rfl,hb1⟩
  refine Z8o ?_;intro hS1 hz1
  have HB1:=Lib.hid (HB0.out.trans (hb1.mono HB0.out.size))
  clear hb1 hHeld
  dsimp only
  refine hK.out _ _ ?_ (fun hHeld=>?_)
  ·exact hS1
  clear hK K
  refine Z5y ?_
  refine Z94 ?_
  refine Z5y ?_
  refine Tk.t 4 (v:=undef) rfl (Or.inr ⟨by rfl,rfl⟩) Zbd ?_
  refine Z5y ?_
  refine Tk.t 5 (v:=undef) rfl (Or.inr ⟨by rfl,rfl⟩) Zbd ?_
  refine Z5y ?_
  refine Tk.t 6 (v:=undef) rfl (Or.inr ⟨by rfl,rfl⟩) Zbd ?_
  refine Z5y ?_
  refine Tk.t 7 (v:=undef) rfl (Or.inr ⟨by rfl,rfl⟩) Zbd ?_
  refine Z5y ?_
  refine Tk.t 8 (v:=undef) rfl (Or.inr ⟨by rfl,rfl⟩) Zbd ?_
  refine Z5y ?_
  refine Tk.t 9 (v:=undef) rfl (Or.inr ⟨by rfl,rfl⟩) Zbd ?_
  refine Z5y ?_
  refine Tk.t 10 (v:=undef) rfl (Or.inr ⟨by rfl,rfl⟩) Zbd ?_
  refine Z5y ?_
  refine Za5 ?_
  refine Z5y ?_
  refine Zag ?_
  exact Z2z
 ·obtain⟨h0,rfl⟩:=hT
  go_enter Tryz.func13,Tryz.ntmps13
  go_wp2_with fail
  refine wp_region_held_drew (S:=BoxAt w.heap.size H W C A n c) Zb5 (BoxAt.new _ _ _ _ _ _ _ _) (fun hHeld=>?_)
  refine Tk.y 0 (v:=?_) rfl ?_ ?_
  rotate_left
  ·exact Z3d
  refine Z5y ?_
  refine Tk.y 1 (v:=?_) rfl ?_ ?_
  rotate_left
  ·exact Z3d
  refine Z5y ?_
  refine Tk.s 2 rfl (fun K hK=>?_)
  go_simp
  go_at_call 43
  refine (CShape.zak H W C true HR.out _).mono ?_
  rintro e w1 ⟨rfl,hb1⟩
  refine Z8o ?_;intro hS1 hz1
  have HB1:=Lib.hid (HB0.out.trans (hb1.mono HB0.out.size))
  clear hb1 hHeld
  dsimp only
  refine hK.out _ _ ?_ (fun hHeld=>?_)
  ·exact hS1
  clear hK K
  refine Z5y ?_
  refine Z94 ?_
  refine Z5y ?_
  refine Tk.y 4 (v:=?_) rfl ?_ ?_
  rotate_left
  ·exact Z3d
  refine Z5y ?_
  refine Tk.y 5 (v:=?_) rfl ?_ ?_
  rotate_left
  ·exact Z3d
  refine Z5y ?_
  refine Tk.y 6 (v:=?_) rfl ?_ ?_
  rotate_left
  ·exact Z3d
  refine Z5y ?_
  refine Tk.y 7 (v:=?_) rfl ?_ ?_
  rotate_left
  ·exact Z3d
  refine Z5y ?_
  refine Tk.y 8 (v:=?_) rfl ?_ ?_
  rotate_left
  ·exact Z3d
  refine Z5y ?_
  refine Tk.s 9 rfl (fun K hK=>?_)
  go_simp
  go_at_call 44
  refine (CShape.zb3 H W C m HM.out _).mono ?_
  rintro e w2 ⟨rfl,hb2⟩
  have hS2:=hHeld.below Zbo hb2
  have hz2:w.heap.size < w2.heap.size:=by have:=hb2.size;first | omega | (simp at this;omega)
  have HB2:=Lib.hid (HB1.out.trans (hb2.mono HB1.out.size))
  clear hb2 hHeld
  dsimp only
  refine hK.out _ _ ?_ (fun hHeld=>?_)
  ·exact hS2
  clear hK K
  refine Z5y ?_
  refine Z9o ?_
  refine Z5y ?_
  refine Za5 ?_
  refine Z5y ?_
  refine Zag ?_
  refine Z5y ?_
  refine Z6y ?_
  go_wp2
  go_ret
  exact⟨rfl,HB2.out⟩
end Go.Proofs.YtchpdhhpkljdhaaGreatDoor.CTensor
end
section
namespace Go.Proofs.YtchpdhhpkljdhaaGreatDoor.CWheel
open Go Go.ChangeShapes Go.WideShapes Go.ChangeAt Go.RowKit
open FloatNum CFour
set_option linter.unusedVariables false
theorem in16 {n:Int} (h:(Lit.int .i16 n).wf=true):In16 n:=by
 have : -32768≤n∧n≤32767:=by simpa [Lit.wf,IntKind.min,IntKind.max,IntKind.signed,IntKind.bits] using h
 exact this
def XR (rows:List (List Int)) (k i:Nat):Int:=(rows.getD k []).getD i 0
theorem XR_at {rows:List (List Int)} {k:Nat} (hk:k < rows.length) (i:Nat):XR rows k i=rows[k].getD i 0:=by
 unfold XR
 rw [List.getD_eq_getElem?_getD (l:=rows),List.getElem?_eq_getElem hk];rfl
theorem XR_in {rows:List (List Int)} (h:∀ row∈rows,∀ n∈row,(Lit.int .i16 n).wf=true) (k i:Nat):In16 (XR rows k i):=by
 have h0:In16 0:=by unfold In16;omega
 unfold XR
 rw [List.getD_eq_getElem?_getD (l:=rows)]
 cases hr:rows[k]? with
 | none=>simp;exact h0
 | some row =>
   rw [Option.getD_some,List.getD_eq_getElem?_getD]
   cases hz:row[i]? with
   | none=>exact h0
   | some z =>
     have:=h row (List.mem_of_getElem? hr) z (List.mem_of_getElem? hz)
     rw [Option.getD_some]
     exact in16 this
def Wts (w:World) (B:Nat) (A:Option Addr) (n:Nat) (W:Nat→Nat→Int):Prop :=
 ∀ k,k < n→∃ b o,A=some ⟨b,o,none⟩∧b < B∧w.rangeAt b (o+k * 3) [.int .i8 (W k 0),.int .i8 (W k 1),.int .i8 (W k 2)]
theorem zcv {w w':World} {B b o:Nat} {vs:List Value} (h:w.rangeAt b o vs) (hb:Below B w w') (hB:b < B):w'.rangeAt b o vs:=fun j v hj=>by
 rw [hb.cell (p:=⟨b,o+j,none⟩) hB];exact h j v hj
def Wheels (w:World) (B:Nat) (A:Option Addr) (n:Nat) (W:Nat→Nat→Int):Prop :=
 ∀ k,k < n→∃ (b o:Nat) (S:Nat→Value),A=some ⟨b,o,none⟩∧b < B∧(∀ i,i < 4→IsC (S i) (wh4 (W k 0) 0 (W k 2) (W k 1) i))∧w.rangeAt b (o+k * 4) [S 0,S 1,S 2,S 3]
theorem splice_four (row:List Int) (f:Nat):splice [.int .i16 0,.int .i16 0,.int .i16 0,.int .i16 0] 0 (((row.drop f).take 4).map (Value.int .i16)) =
  [.int .i16 (row.getD f 0),.int .i16 (row.getD (f+1) 0),.int .i16 (row.getD (f+2) 0),.int .i16 (row.getD (f+3) 0)]:=by
 have e:∀ j,row.getD (f+j) 0=(row.drop f).getD j 0:=fun j=>by
  rw [List.getD_eq_getElem?_getD,List.getD_eq_getElem?_getD,List.getElem?_drop]
 have e0:=e 0
 rw [Nat.add_zero] at e0
 rw [e0,e 1,e 2,e 3]
 generalize row.drop f=l
 unfold splice
 match l with
 | []=>rfl
 | [a]=>rfl
 | [a,b]=>rfl
 | [a,b,c]=>rfl
 | a :: b :: c :: d :: l=>simp
end Go.Proofs.YtchpdhhpkljdhaaGreatDoor.CWheel
end
section
namespace Go.Proofs.YtchpdhhpkljdhaaGreatDoor.CGemm
open Go Go.ChangeShapes Go.WideShapes Go.ChangeAt Go.RowKit
open Plain
set_option linter.unusedVariables false
def psum (G:Nat→Int):Nat→Int
 | 0=>0
 | n+1=>psum G n+G n
theorem zck {G G':Nat→Int} {n:Nat} (h:∀ k,k < n→G k=G' k):psum G n=psum G' n:=by
 exact Z2s
theorem zc6 (a b:Int):IntKind.i32.wrap (IntKind.i32.wrap a+b)=IntKind.i32.wrap (a+b):=by rw [IntKind.wrap_i32,IntKind.wrap_i32,IntKind.wrap_i32];omega
def I16b (zs:List Int):Prop:=∀ q, -32768≤zs.getD q 0∧zs.getD q 0≤32767
def I8b (zs:List Int):Prop:=∀ q, -128≤zs.getD q 0∧zs.getD q 0≤127
theorem mul_bd {x y:Int} (x1 : -32768≤x) (x2:x≤32767) (y1 : -128≤y) (y2:y≤127) : -4194304≤x * y∧x * y≤4194304:=by
 have a1:0≤(32768+x) * (127 - y):=Int.mul_nonneg Zb3 Zb3
 have a2:0≤(32768+x) * (128+y):=Int.mul_nonneg Zb3 Zb3
 have a3:0≤(32767 - x) * (127 - y):=Int.mul_nonneg Zb3 Zb3
 have a4:0≤(32767 - x) * (128+y):=Int.mul_nonneg Zb3 Zb3
 simp only [Int.add_mul,Int.sub_mul,Int.mul_sub,Int.mul_add] at a1 a2 a3 a4
 omega
def dotF (xs ys:List Int) (k:Nat):Int:=xs.getD k 0 * ys.getD k 0
theorem zax {w:World} {B:Nat} {A:Option Addr} {k:IntKind} {zs:List Int} (h:Kit.Rd w B A (zs.map (.int k))) {j:Nat} (hj:j < zs.length) :
  ∃ b off,A=some ⟨b,off,none⟩∧b < B∧∀ i,i < zs.length→w.cell? ⟨b,off+i,none⟩=some (.int k (zs.getD i 0)):=by
 exact Z29
set_option maxHeartbeats 1000000 in
theorem dot_to (A B:Option Addr) (xs ys:List Int) (n m c d b:Nat) (hx:xs.length=n) (hy:ys.length=m) (hb:min n m=b) (hnc:n≤c) (hmd:m≤d) (hb1:b≤1000000) (hc:c≤maxLen) (hd:d≤maxLen) (hxb:I16b xs) (hyb:I8b ys)
  (w:World) {B1 B2:Nat} (hr:Kit.Rd w B1 A (xs.map (.int .i16))) (hs:Kit.Rd w B2 B (ys.map (.int .i8))) (R:Int) (hR:IntKind.i32.wrap (psum (dotF xs ys) b)=R) :
  Calls Tryz.prog 127 #[.slice A n c,.slice B m d] w fun e w'=>e=.returned (.int .i32 R)∧∃ q,w'=w.drewN q:=by
 have HRR:=Lib.hid hR
 have HXB:=Lib.hid hxb
 have HYB:=Lib.hid hyb
 have HR:=Lib.hid hr
 have HS:=Lib.hid hs
 have hbn:b≤n:=by omega
 have hbm:b≤m:=by omega
 have hbc:b≤c:=by omega
 have hbd:b≤d:=by omega
 have hcm:c≤9223372036854775807:=by unfold maxLen at hc;omega
 have hdm:d≤9223372036854775807:=by unfold maxLen at hd;omega
 have hb0:(0:Int)≤(b:Int):=by omega
 have hbc':(b:Int)≤(c:Int):=by omega
 have hbd':(b:Int)≤(d:Int):=by omega
 clear hR hxb hyb hr hs hc hd
 rcases (show (n≤m∧b=n)∨(m < n∧b=m) by omega) with ⟨hle,rfl⟩ | ⟨hle,rfl⟩
 all_goals
  go_enter Tryz.func127,Tryz.ntmps127
  go_wp2_with fail
  go_quiet (fail)
  go_wp2_with fail
  go_loopw [6,22] (fun u i wr=>∃ k:Nat,k≤b∧i=Jj Jq k∧u=.int .i32 (IntKind.i32.wrap (psum (dotF xs ys) k))∧Hid (wr=w.drewN nq)) (fun _ i _=>b - (intOf i).toNat)
  case atStart=>exact⟨0,Nat.zero_le _,rfl,congrArg (Value.int .i32) Zbs,Lib.hid rfl⟩
  case round =>
   obtain⟨k,hk,rfl,rfl,hw⟩:=hrel
   obtain rfl:=hw.out
   clear hw
   by_cases hlt:k < b
   ·obtain⟨b1,o1,rfl,_,hcx0⟩:=zax HR.out (j:=0) Zb3
    obtain⟨b2,o2,rfl,_,hcy0⟩:=zax HS.out (j:=0) Zb3
    have hcx:=hcx0 k Zb3
    have hcy:=hcy0 k Zb3
    clear hcx0 hcy0
    refine Z93 ?_;intro hk0
    have hkb:(k:Int) < (b:Int):=by omega
    obtain⟨x1,x2⟩:=HXB.out k
    obtain⟨y1,y2⟩:=HYB.out k
    obtain⟨t1,t2⟩:=mul_bd x1 x2 y1 y2
    have hnext:IntKind.i32.wrap (IntKind.i32.wrap (psum (dotF xs ys) k)+xs.getD k 0 * ys.getD k 0)=IntKind.i32.wrap (psum (dotF xs ys) (k+1)):=by
     rw [zc6];simp only [psum];rfl
    generalize xs.getD k 0=x at hcx x1 x2 t1 t2 hnext
    generalize ys.getD k 0=y at hcy y1 y2 t1 t2 hnext
    obtain⟨u1,hu1⟩:∃ u1,IntKind.i32.wrap (psum (dotF xs ys) k)=u1:=⟨_,rfl⟩
    obtain⟨u2,hu2⟩:∃ u2,IntKind.i32.wrap (psum (dotF xs ys) (k+1))=u2:=⟨_,rfl⟩
    have HU2:=Lib.hid hu2
    rw [hu1,hu2] at hnext
    rw [hu1]
    have e1:IntKind.i32.wrap x=x:=IntWalk.i32_in _ Zb3
    have e2:IntKind.i32.wrap y=y:=IntWalk.i32_in _ Zb3
    have e3:IntKind.i32.wrap (x * y)=x * y:=IntWalk.i32_in _ Zb3
    clear hu1 hu2 t1 t2
    go_wp2_with fail
    go_roundw
    case rel=>exact⟨k+1,by omega,by go_num,congrArg _ HU2.out.symm,by first | exact Lib.hid rfl | exact Lib.hid trivial⟩
    case measure=>simp [intOf];omega
   ·obtain rfl:k=b:=by omega
    rw [HRR.out]
    go_wp2_with fail
    go_ret
    exact⟨rfl,nq,rfl⟩
end Go.Proofs.YtchpdhhpkljdhaaGreatDoor.CGemm
end
