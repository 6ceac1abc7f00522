/- -/
import Derived.Shelf.Bits.Mul64
import Derived.Test.YtfgdfignoakkaaaGreatDoorRows
import Derived.Test.YtfgdfignoakkaaaGreatDoorGBT1
namespace Go.Proofs.YtfgdfignoakkaaaGreatDoor.CSat
end Go.Proofs.YtfgdfignoakkaaaGreatDoor.CSat
section
namespace Go.Proofs.YtfgdfignoakkaaaGreatDoor.Plain
open Go Go.RowKit
def zb1 (v lo hi:Int):Int:=if v < lo then lo else if v > hi then hi else v
def fits (v:Int):Bool:=decide (-9223372036854775808≤v∧v≤9223372036854775807)
def fitZ (v:Int):Int:=if fits v then v else 0
theorem fits_yes {v:Int} (h1 : -9223372036854775808≤v) (h2:v≤9223372036854775807):fits v=true:=by simp [fits,h1,h2]
theorem fits_no {v:Int} (h:v < -9223372036854775808∨9223372036854775807 < v):fits v=false:=by
 simp [fits];omega
theorem clampZ_lo {v lo hi:Int} (h:v < lo):lo=zb1 v lo hi:=by unfold zb1;rw [if_pos h]
theorem clampZ_hi {v lo hi:Int} (h:lo≤v) (h2:hi < v):hi=zb1 v lo hi:=by unfold zb1;rw [if_neg (by omega),if_pos h2]
theorem clampZ_in {v lo hi:Int} (h:lo≤v) (h2:v≤hi):v=zb1 v lo hi:=by unfold zb1;rw [if_neg (by omega),if_neg (by omega)]
theorem fitZ_yes {v:Int} (h1 : -9223372036854775808≤v) (h2:v≤9223372036854775807):fitZ v=v:=by unfold fitZ;rw [if_pos (fits_yes h1 h2)]
theorem fitZ_no {v:Int} (h:v < -9223372036854775808∨9223372036854775807 < v):fitZ v=0:=by unfold fitZ;rw [if_neg (by simp [fits_no h])]
end Go.Proofs.YtfgdfignoakkaaaGreatDoor.Plain
end
section
namespace Go.Proofs
open Go.Shelf
def Tryz.lays264_ren:Go.Shelf.Ren:=⟨fun | 264=>156 | n=>n,fun | 53=>78 | 46=>112 | n=>n,fun | n=>n⟩
theorem Tryz.lays264:Go.Proofs.Lays.n264 Tryz.prog Tryz.lays264_ren := {
 mixed:=by kernel_rfl
 f264:=Tryz.func156.trans (congrArg some (by kernel_rfl))
 t46:=Tryz.underlying112
 a46:=Tryz.isAgg112
 z46:=Tryz.sizeOf112
 v46:=Tryz.zeroValue112
 t53:=Tryz.underlying78
 a53:=Tryz.isAgg78
 z53:=Tryz.sizeOf78
 v53:=Tryz.zeroValue78 }
open Go.RowKit Go.Lib in
theorem Tryz.bits_Mul64 (x y:Nat) (hx:x < 18446744073709551616) (hy:y < 18446744073709551616) (w:World) :
  Calls Tryz.prog 156 #[.int .u64 x,.int .u64 y] w fun e w'=>e=.returned (.tuple #[.int .u64 ((x * y / 18446744073709551616:Nat):Int),.int .u64 ((x * y % 18446744073709551616:Nat):Int)])∧w'=w:=Any.bits_Mul64 Tryz.lays264 x y hx hy w
end Go.Proofs
end
section
namespace Go.Proofs.YtfgdfignoakkaaaGreatDoor.CSat
open Go.ChangeShapes Go.WideShapes Go.ChangeAt Go.RowKit
open Plain
set_option linter.unusedVariables false
theorem zbq {k:IntKind} {a b:Int} (h:a=b):Ending.returned (.int k a)=.returned (.int k b):=by rw [h]
theorem clamp (v lo hi:Int) (hl1 : -128≤lo) (hl2:lo≤127) (hh1 : -128≤hi) (hh2:hi≤127) (w:World) :
  Calls Tryz.prog 190 #[.int .i64 v,.int .i8 lo,.int .i8 hi] w fun e w'=>e=.returned (.int .i8 (zb1 v lo hi))∧w=w':=by
 by_cases h1:v < lo
 ·go_enter Tryz.func190,Tryz.ntmps190
  go_wp2
  go_ret
  exact⟨zbq (by exact clampZ_lo (by omega)),rfl⟩
 ·by_cases h2:v > hi
  ·go_enter Tryz.func190,Tryz.ntmps190
   go_wp2
   go_ret
   exact⟨zbq (by exact clampZ_hi (by omega) (by omega)),rfl⟩
  ·go_enter Tryz.func190,Tryz.ntmps190
   go_wp2
   go_ret
   exact⟨zbq (by exact clampZ_in (by omega) (by omega)),rfl⟩
theorem mul_bd (a b:Int) (ha1 : -2147483648≤a) (ha2:a≤2147483647) (hb1 : -2147483648≤b) (hb2:b≤2147483647) : -4611686018427387904≤a * b∧a * b≤4611686018427387904:=by
 have h:(a * b).natAbs≤2147483648 * 2147483648:=by
  rw [Int.natAbs_mul];exact Nat.mul_le_mul (by omega) (by omega)
 omega
theorem size (a:Int) (ha1 : -9223372036854775808≤a) (ha2:a≤9223372036854775807) (w:World) :
  Calls Tryz.prog 157 #[.int .i64 a] w fun e w'=>e=.returned (.int .u64 (a.natAbs:Int))∧w=w':=by
 by_cases h:a < 0
 ·have hx:IntKind.u64.wrap a=a+18446744073709551616:=by rw [IntKind.wrap_u64];omega
  go_enter Tryz.func157,Tryz.ntmps157
  go_wp2
  go_ret
  exact⟨zbq (by rw [IntKind.wrap_u64];omega),rfl⟩
 ·go_enter Tryz.func157,Tryz.ntmps157
  go_wp2
  go_ret
  exact⟨zbq (by omega),rfl⟩
theorem za3 (x y P:Nat) (hx:x < 18446744073709551616) (hy:y < 18446744073709551616) (hP:P=x * y) (h:P < 18446744073709551616) (w:World) :
  Calls Tryz.prog 156 #[.int .u64 x,.int .u64 y] w fun e w'=>e=.returned (.tuple #[.int .u64 0,.int .u64 (P:Int)])∧w=w':=by
 refine (Tryz.bits_Mul64 x y hx hy w).mono fun e w' he=>?_
 rw [← hP,Nat.div_eq_of_lt h,Nat.mod_eq_of_lt h] at he
 exact⟨he.1,he.2.symm⟩
def BigHigh (w:World) (e:Ending) (w':World):Prop:=∃ h l:Int,1≤h∧(h != 0)=true∧e=.returned (.tuple #[.int .u64 h,.int .u64 l])∧w=w'
theorem mul64_big (x y:Nat) (hx:x < 18446744073709551616) (hy:y < 18446744073709551616) (h:18446744073709551616≤x * y) (w:World) :
  Calls Tryz.prog 156 #[.int .u64 x,.int .u64 y] w (BigHigh w):=by
 refine (Tryz.bits_Mul64 x y hx hy w).mono fun e w' he=>?_
 have h1:1≤x * y / 18446744073709551616:=(Nat.le_div_iff_mul_le (by omega)).2 (by omega)
 generalize x * y / 18446744073709551616=q at h1 he
 exact⟨q,_,by omega,by rw [bne_iff_ne];omega,he.1,he.2.symm⟩
theorem abs_mul (a b:Int):(a * b).natAbs=a.natAbs * b.natAbs:=Int.natAbs_mul a b
theorem neg_back (P:Nat) (h:P≤9223372036854775808):Ending.returned (.tuple #[.int .i64 (wrap64 (IntKind.u64.wrap (-(P:Int)))),.bool true])=Ending.returned (.tuple #[.int .i64 (-(P:Int)),.bool true]):=by
 have:wrap64 (IntKind.u64.wrap (-(P:Int))) = -(P:Int):=by rw [IntKind.wrap_u64];unfold wrap64;omega
 rw [this]
theorem times (a b:Int) (ha1 : -9223372036854775808≤a) (ha2:a≤9223372036854775807) (hb1 : -9223372036854775808≤b) (hb2:b≤9223372036854775807) (w:World) :
  Calls Tryz.prog 143 #[.int .i64 a,.int .i64 b] w fun e w'=>e=.returned (.tuple #[.int .i64 (fitZ (a * b)),.bool (fits (a * b))])∧w=w':=by
 have hm:=abs_mul a b
 have hA:a.natAbs < 18446744073709551616:=by omega
 have hB:b.natAbs < 18446744073709551616:=by omega
 by_cases hbig:18446744073709551616≤a.natAbs * b.natAbs
 ·have h2:a * b < -9223372036854775808∨9223372036854775807 < a * b:=by omega
  rw [fitZ_no h2,fits_no h2]
  have H:=Lib.hid hbig
  clear hm h2 hbig
  go_enter Tryz.func143,Tryz.ntmps143
  go_wp2_with (first | (go_at_call 157;refine (size _ (by omega) (by omega) _).mono ?_;rintro e w' ⟨rfl,rfl⟩) | (go_at_call 156;refine (mul64_big _ _ hA hB H.out _).mono ?_;rintro e w' ⟨h,l,h1,h2,rfl,rfl⟩))
  go_ret2
  exact⟨rfl,rfl⟩
 ·obtain⟨P,hP⟩:∃ P,P=a.natAbs * b.natAbs:=⟨_,rfl⟩
  have hsm:P < 18446744073709551616:=by omega
  have key:(((a < 0)=(b < 0))→a * b=P)∧(((a < 0)≠(b < 0))→a * b = - (P:Int)):=by
   have hs:(a * b=P)∨(a * b = -(P:Int)):=by omega
   constructor
   ·intro hsg
    by_cases ha:a < 0
    ·have hb:b < 0:=hsg ▸ ha
     have:=Int.mul_pos_of_neg_of_neg ha hb
     omega
    ·have hb:¬ b < 0:=hsg ▸ ha
     have:=Int.mul_nonneg (Int.not_lt.1 ha) (Int.not_lt.1 hb)
     omega
   ·intro hsg
    by_cases ha:a < 0
    ·have hb:¬ b < 0:=fun h=>hsg (by simp [ha,h])
     have:=Int.mul_nonpos_of_nonpos_of_nonneg (Int.le_of_lt ha) (Int.not_lt.1 hb)
     omega
    ·have hb:b < 0:=by
      by_cases hb:b < 0
      ·exact hb
      ·exact absurd (by simp [ha,hb]) hsg
     have:=Int.mul_nonpos_of_nonneg_of_nonpos (Int.not_lt.1 ha) (Int.le_of_lt hb)
     omega
  obtain⟨k1,k2⟩:=key
  clear hm hbig
  have H:=Lib.hid hP
  clear hP
  by_cases ha:a < 0 <;> by_cases hb:b < 0
  ·rw [k1 (by simp [ha,hb])];clear k1 k2
   have da:decide (a < 0)=true:=by simp;omega
   have db:decide (b < 0)=true:=by simp;omega
   by_cases hq:P≤9223372036854775807
   ·rw [fitZ_yes (by omega) (by omega),fits_yes (by omega) (by omega)]
    go_enter Tryz.func143,Tryz.ntmps143
    go_wp2_with (first | (go_at_call 157;refine (size _ (by omega) (by omega) _).mono ?_;rintro e w' ⟨rfl,rfl⟩) | (go_at_call 156;refine (za3 _ _ P hA hB H.out (by omega) _).mono ?_;rintro e w' ⟨rfl,rfl⟩))
    go_ret2
    exact⟨rfl,rfl⟩
   ·rw [fitZ_no (by omega),fits_no (by omega)]
    go_enter Tryz.func143,Tryz.ntmps143
    go_wp2_with (first | (go_at_call 157;refine (size _ (by omega) (by omega) _).mono ?_;rintro e w' ⟨rfl,rfl⟩) | (go_at_call 156;refine (za3 _ _ P hA hB H.out (by omega) _).mono ?_;rintro e w' ⟨rfl,rfl⟩))
    go_ret2
    exact⟨rfl,rfl⟩
  ·rw [k2 (by simp [ha,hb])];clear k1 k2
   have da:decide (a < 0)=true:=by simp;omega
   have db:decide (b < 0)=false:=by simp;omega
   by_cases hq:P≤9223372036854775808
   ·rw [fitZ_yes (by omega) (by omega),fits_yes (by omega) (by omega)]
    go_enter Tryz.func143,Tryz.ntmps143
    go_wp2_with (first | (go_at_call 157;refine (size _ (by omega) (by omega) _).mono ?_;rintro e w' ⟨rfl,rfl⟩) | (go_at_call 156;refine (za3 _ _ P hA hB H.out (by omega) _).mono ?_;rintro e w' ⟨rfl,rfl⟩))
    go_ret2
    exact⟨neg_back P (by omega),rfl⟩
   ·rw [fitZ_no (by omega),fits_no (by omega)]
    go_enter Tryz.func143,Tryz.ntmps143
    go_wp2_with (first | (go_at_call 157;refine (size _ (by omega) (by omega) _).mono ?_;rintro e w' ⟨rfl,rfl⟩) | (go_at_call 156;refine (za3 _ _ P hA hB H.out (by omega) _).mono ?_;rintro e w' ⟨rfl,rfl⟩))
    go_ret2
    exact⟨rfl,rfl⟩
  ·rw [k2 (by simp [ha,hb])];clear k1 k2
   have da:decide (a < 0)=false:=by simp;omega
   have db:decide (b < 0)=true:=by simp;omega
   by_cases hq:P≤9223372036854775808
   ·rw [fitZ_yes (by omega) (by omega),fits_yes (by omega) (by omega)]
    go_enter Tryz.func143,Tryz.ntmps143
    go_wp2_with (first | (go_at_call 157;refine (size _ (by omega) (by omega) _).mono ?_;rintro e w' ⟨rfl,rfl⟩) | (go_at_call 156;refine (za3 _ _ P hA hB H.out (by omega) _).mono ?_;rintro e w' ⟨rfl,rfl⟩))
    go_ret2
    exact⟨neg_back P (by omega),rfl⟩
   ·rw [fitZ_no (by omega),fits_no (by omega)]
    go_enter Tryz.func143,Tryz.ntmps143
    go_wp2_with (first | (go_at_call 157;refine (size _ (by omega) (by omega) _).mono ?_;rintro e w' ⟨rfl,rfl⟩) | (go_at_call 156;refine (za3 _ _ P hA hB H.out (by omega) _).mono ?_;rintro e w' ⟨rfl,rfl⟩))
    go_ret2
    exact⟨rfl,rfl⟩
  ·rw [k1 (by simp [ha,hb])];clear k1 k2
   have da:decide (a < 0)=false:=by simp;omega
   have db:decide (b < 0)=false:=by simp;omega
   by_cases hq:P≤9223372036854775807
   ·rw [fitZ_yes (by omega) (by omega),fits_yes (by omega) (by omega)]
    go_enter Tryz.func143,Tryz.ntmps143
    go_wp2_with (first | (go_at_call 157;refine (size _ (by omega) (by omega) _).mono ?_;rintro e w' ⟨rfl,rfl⟩) | (go_at_call 156;refine (za3 _ _ P hA hB H.out (by omega) _).mono ?_;rintro e w' ⟨rfl,rfl⟩))
    go_ret2
    exact⟨rfl,rfl⟩
   ·rw [fitZ_no (by omega),fits_no (by omega)]
    go_enter Tryz.func143,Tryz.ntmps143
    go_wp2_with (first | (go_at_call 157;refine (size _ (by omega) (by omega) _).mono ?_;rintro e w' ⟨rfl,rfl⟩) | (go_at_call 156;refine (za3 _ _ P hA hB H.out (by omega) _).mono ?_;rintro e w' ⟨rfl,rfl⟩))
    go_ret2
    exact⟨rfl,rfl⟩
end Go.Proofs.YtfgdfignoakkaaaGreatDoor.CSat
end
section
namespace Go.Proofs.YtfgdfignoakkaaaGreatDoor.CShape
open Go Go.ChangeShapes Go.WideShapes Go.ChangeAt Go.RowKit
open Plain CSat
set_option linter.unusedVariables false
theorem zbv (n lo hi:Int) (h1:lo≤n) (h2:n≤hi) (w:World) :
  Calls Tryz.prog 126 #[.int .i64 n,.int .i64 lo,.int .i64 hi] w fun e w'=>e=.returned (.bool true)∧w=w':=by
 go_enter Tryz.func126,Tryz.ntmps126
 go_wp2
 go_ret
 exact⟨rfl,rfl⟩
theorem within_no (n lo hi:Int) (h:n < lo∨hi < n) (w:World) :
  Calls Tryz.prog 126 #[.int .i64 n,.int .i64 lo,.int .i64 hi] w fun e w'=>e=.returned (.bool false)∧w=w':=by
 by_cases h1:n < lo
 ·have hd:decide (n ≥ lo)=false:=by simp;omega
  go_enter Tryz.func126,Tryz.ntmps126
  go_wp2
  go_ret
  exact⟨rfl,rfl⟩
 ·have h2:hi < n:=by omega
  have hd:decide (n≤hi)=false:=by simp;omega
  go_enter Tryz.func126,Tryz.ntmps126
  go_wp2
  go_ret
  exact⟨rfl,rfl⟩
theorem times_in (a b c:Int) (ha1 : -9223372036854775808≤a) (ha2:a≤9223372036854775807) (hb1 : -9223372036854775808≤b) (hb2:b≤9223372036854775807) (hc:a * b=c) (hc1 : -9223372036854775808≤c) (hc2:c≤9223372036854775807) (w:World) :
  Calls Tryz.prog 143 #[.int .i64 a,.int .i64 b] w fun e w'=>e=.returned (.tuple #[.int .i64 c,.bool true])∧w=w':=by
 subst hc
 have h:=times a b ha1 ha2 hb1 hb2 w
 rw [fitZ_yes hc1 hc2,fits_yes hc1 hc2] at h
 exact h
theorem product (a b c p q:Int) (ha1:1≤a) (ha2:a≤16) (hb1:1≤b) (hb2:b≤16) (hc1:1≤c) (hc2:c≤1024) (hp:a * b=p) (hq:p * c=q) (w:World) :
  Calls Tryz.prog 127 #[.agg #[.int .i64 a,.int .i64 b,.int .i64 c]] w fun e w'=>e=.returned (.tuple #[.int .i64 q,.bool true])∧Below w.heap.size w w':=by
 have hp1:1≤p:=hp ▸ Int.mul_le_mul ha1 hb1 (by omega) (by omega)
 have hp2:p≤256:=hp ▸ Int.mul_le_mul ha2 hb2 (by omega) (by omega)
 have hq1:1≤q:=hq ▸ Int.mul_le_mul hp1 hc1 (by omega) (by omega)
 have hq2:q≤262144:=hq ▸ Int.mul_le_mul hp2 hc2 (by omega) (by omega)
 have HP:=Lib.hid hp
 have HQ:=Lib.hid hq
 clear hp hq
 go_enter Tryz.func127,Tryz.ntmps127
 go_wp2
 go_loop [4,5,6,7] (fun n ok i t=>(n=.int .i64 1∧t=.int .i64 0)∨(n=.int .i64 a∧t=.int .i64 1)∨(n=.int .i64 p∧t=.int .i64 2)∨(n=.int .i64 q∧t=.int .i64 3)) (fun _ _ _ t=>3 - (intOf t).toNat)
 case atStart=>exact .inl ⟨rfl,rfl⟩
 case round =>
  rcases hrel with ⟨rfl,rfl⟩ | ⟨rfl,rfl⟩ | ⟨rfl,rfl⟩ | ⟨rfl,rfl⟩
  ·go_wp2_with (go_at_call 143;refine (times_in _ _ a (by omega) (by omega) (by omega) (by omega) (by omega) (by omega) (by omega) _).mono ?_;rintro e w' ⟨rfl,rfl⟩)
   go_round
   case rel=>exact .inr (.inl ⟨rfl,rfl⟩)
   case measure=>simp [intOf]
  ·go_wp2_with (go_at_call 143;refine (times_in _ _ p (by omega) (by omega) (by omega) (by omega) HP.out (by omega) (by omega) _).mono ?_;rintro e w' ⟨rfl,rfl⟩)
   go_round
   case rel=>exact .inr (.inr (.inl ⟨rfl,rfl⟩))
   case measure=>simp [intOf]
  ·go_wp2_with (go_at_call 143;refine (times_in _ _ q (by omega) (by omega) (by omega) (by omega) HQ.out (by omega) (by omega) _).mono ?_;rintro e w' ⟨rfl,rfl⟩)
   go_round
   case rel=>exact .inr (.inr (.inr ⟨rfl,rfl⟩))
   case measure=>simp [intOf]
  ·go_wp2
   go_ret2
   exact⟨rfl,(Below.refl _ _).alloc (Nat.le_refl _) _⟩
def zae (h w c:Int):Bool:=decide (1≤h∧h≤16∧1≤w∧w≤16∧1≤c∧c≤1024∧h * w * c≤1024)
def zas (h w c:Int):Int:=if zae h w c then h * w * c else 0
theorem prod_bd {h w c:Int} (h1:1≤h) (h2:h≤16) (h3:1≤w) (h4:w≤16) (h5:1≤c) (h6:c≤1024):1≤h * w * c∧h * w * c≤262144:=by
 have a1:1≤h * w:=Int.mul_le_mul h1 h3 (by omega) (by omega)
 have a2:h * w≤256:=Int.mul_le_mul h2 h4 (by omega) (by omega)
 exact⟨Int.mul_le_mul a1 h5 (by omega) (by omega),Int.mul_le_mul a2 h6 (by omega) (by omega)⟩
theorem zah {h w c:Int} (hs:zae h w c=true):1≤h∧h≤16∧1≤w∧w≤16∧1≤c∧c≤1024∧h * w * c≤1024:=by simpa [zae] using hs
theorem zbc {h w c:Int} (hs:zae h w c=true):zas h w c=h * w * c:=by unfold zas;rw [if_pos hs]
theorem elemsZ_no {h w c:Int} (hs:zae h w c=false):zas h w c=0:=by unfold zas;rw [if_neg (by simp [hs])]
theorem elemsZ_pos (h w c:Int):decide (zas h w c > 0)=zae h w c:=by
 cases hs:zae h w c
 ·rw [elemsZ_no hs];rfl
 ·obtain⟨a1,a2,a3,a4,a5,a6,a7⟩:=zah hs
  rw [zbc hs]
  have:=prod_bd a1 a2 a3 a4 a5 a6
  simp;omega
theorem elems_yes (h w c n:Int) (h1:1≤h) (h2:h≤16) (h3:1≤w) (h4:w≤16) (h5:1≤c) (h6:c≤1024) (hn:h * w * c=n) (hn1:n≤1024) (W:World) :
  Calls Tryz.prog 97 #[.agg #[.int .i64 h,.int .i64 w,.int .i64 c]] W fun e w'=>e=.returned (.int .i64 n)∧Below W.heap.size W w':=by
 have hb:=prod_bd h1 h2 h3 h4 h5 h6
 rw [hn] at hb
 obtain⟨b1,b2⟩:=hb
 have HN:=Lib.hid hn
 clear hn
 go_enter Tryz.func97,Tryz.ntmps97
 go_wp2_with (first
   | (go_at_call 126;refine (zbv _ _ _ (by omega) (by omega) _).mono ?_;rintro e w' ⟨rfl,rfl⟩)
   | (go_at_call 127;refine (product h w c _ n h1 h2 h3 h4 h5 h6 rfl HN.out _).mono ?_;rintro e w1 ⟨rfl,hb⟩))
 go_ret
 exact⟨rfl,((Below.refl _ _).alloc (Nat.le_refl _) _).trans (hb.mono (by simp))⟩
theorem elems_many (h w c n:Int) (h1:1≤h) (h2:h≤16) (h3:1≤w) (h4:w≤16) (h5:1≤c) (h6:c≤1024) (hn:h * w * c=n) (hn1:1024 < n) (W:World) :
  Calls Tryz.prog 97 #[.agg #[.int .i64 h,.int .i64 w,.int .i64 c]] W fun e w'=>e=.returned (.int .i64 0)∧Below W.heap.size W w':=by
 have hb:=prod_bd h1 h2 h3 h4 h5 h6
 rw [hn] at hb
 obtain⟨b1,b2⟩:=hb
 have HN:=Lib.hid hn
 clear hn
 go_enter Tryz.func97,Tryz.ntmps97
 go_wp2_with (first
   | (go_at_call 126;refine (zbv _ _ _ (by omega) (by omega) _).mono ?_;rintro e w' ⟨rfl,rfl⟩)
   | (go_at_call 127;refine (product h w c _ n h1 h2 h3 h4 h5 h6 rfl HN.out _).mono ?_;rintro e w1 ⟨rfl,hb⟩))
 go_ret
 exact⟨rfl,((Below.refl _ _).alloc (Nat.le_refl _) _).trans (hb.mono (by simp))⟩
theorem elems_out (h w c:Int) (hw:(h < 1∨16 < h)∨(1≤h∧h≤16∧(w < 1∨16 < w))∨(1≤h∧h≤16∧1≤w∧w≤16∧(c < 1∨1024 < c))) (W:World) :
  Calls Tryz.prog 97 #[.agg #[.int .i64 h,.int .i64 w,.int .i64 c]] W fun e w'=>e=.returned (.int .i64 0)∧Below W.heap.size W w':=by
 rcases hw with h1 | ⟨h1,h2,h3⟩ | ⟨h1,h2,h3,h4,h5⟩
 all_goals
  go_enter Tryz.func97,Tryz.ntmps97
  go_wp2_with (first
   | (go_at_call 126;refine (zbv _ _ _ (by omega) (by omega) _).mono ?_;rintro e w' ⟨rfl,rfl⟩)
   | (go_at_call 126;refine (within_no _ _ _ (by omega) _).mono ?_;rintro e w' ⟨rfl,rfl⟩))
  go_ret
  exact⟨rfl,(Below.refl _ _).alloc (Nat.le_refl _) _⟩
theorem elems_to (h w c n:Int) (hn:zas h w c=n) (W:World) :
  Calls Tryz.prog 97 #[.agg #[.int .i64 h,.int .i64 w,.int .i64 c]] W fun e w'=>e=.returned (.int .i64 n)∧Below W.heap.size W w':=by
 cases hs:zae h w c
 ·rw [elemsZ_no hs] at hn
  subst hn
  by_cases hi:1≤h∧h≤16∧1≤w∧w≤16∧1≤c∧c≤1024
  ·obtain⟨a1,a2,a3,a4,a5,a6⟩:=hi
   exact elems_many h w c _ a1 a2 a3 a4 a5 a6 rfl (by simp [zae] at hs;omega) W
  ·exact elems_out h w c (by omega) W
 ·obtain⟨a1,a2,a3,a4,a5,a6,a7⟩:=zah hs
  rw [zbc hs] at hn
  exact elems_yes h w c n a1 a2 a3 a4 a5 a6 hn (hn ▸ a7) W
theorem zal (h w c:Int) (b:Bool) (hb:zae h w c=b) (W:World) :
  Calls Tryz.prog 69 #[.agg #[.int .i64 h,.int .i64 w,.int .i64 c]] W fun e w'=>e=.returned (.bool b)∧Below W.heap.size W w':=by
 obtain⟨n,hn⟩:∃ n,zas h w c=n:=⟨_,rfl⟩
 have hd:decide (n > 0)=b:=by rw [← hn,elemsZ_pos,hb]
 have HN:=Lib.hid hn
 clear hn
 go_enter Tryz.func69,Tryz.ntmps69
 go_wp2_with (go_at_call 97;refine (elems_to _ _ _ n HN.out _).mono ?_;rintro e w1 ⟨rfl,hb⟩)
 go_ret
 exact⟨rfl,((Below.refl _ _).alloc (Nat.le_refl _) _).trans (hb.mono (by simp))⟩
end Go.Proofs.YtfgdfignoakkaaaGreatDoor.CShape
end
section
namespace Go.Proofs.YtfgdfignoakkaaaGreatDoor.LebNum
open Go
def digN (n:Nat):List Int:=if h:n < 128 then [(n:Int)] else ((128+n % 128:Nat):Int) :: digN (n / 128)
termination_by n
decreasing_by omega
def digZ (n:Int):List Int:=digN n.toNat
theorem digZ_lo {n:Int} (h0:0≤n) (h:n < 128):digZ n=[n]:=by
 unfold digZ
 rw [digN,dif_pos (by omega)]
 congr 1;omega
theorem digZ_hi {n:Int} (h:128≤n):digZ n=(128+n % 128) :: digZ (n / 128):=by
 unfold digZ
 rw [digN,dif_neg (by omega)]
 congr 1
 ·omega
 ·congr 1;omega
def valD:List Int→Int
 | []=>0
 | d :: ds=>d % 128+128 * valD ds
def Enc:List Int→Prop
 | []=>False
 | [d]=>0≤d∧d < 128
 | d :: e :: ds=>128≤d∧d < 256∧Enc (e :: ds)∧1≤valD (e :: ds)
theorem enc_dig (k:Nat):∀ n:Nat,n≤k→Enc (digN n)∧valD (digN n)=n∧digN n≠[]:=by
 induction k with
 | zero=>intro n hn;rw [digN,dif_pos (by omega)];refine⟨⟨by omega,by omega⟩,?_,by simp⟩;simp only [valD];omega
 | succ k ih =>
   intro n hn
   rw [digN]
   by_cases h:n < 128
   ·rw [dif_pos h];refine⟨⟨by omega,by omega⟩,?_,by simp⟩;simp only [valD];omega
   ·rw [dif_neg h]
    obtain⟨h1,h2,h3⟩:=ih (n / 128) (by omega)
    cases hd:digN (n / 128) with
    | nil=>exact absurd hd h3
    | cons e ds =>
      rw [hd] at h1 h2
      refine⟨⟨by omega,by omega,h1,by rw [h2];omega⟩,?_,by simp⟩
      rw [valD,h2];omega
theorem digZ_enc {n:Int} (h:0≤n):Enc (digZ n)∧valD (digZ n)=n∧digZ n≠[]:=by
 obtain⟨h1,h2,h3⟩:=enc_dig n.toNat n.toNat (Nat.le_refl _)
 exact⟨h1,by unfold digZ;rw [h2];omega,h3⟩
theorem digN_len (k:Nat):∀ n:Nat,n < 128 ^ (k+1)→(digN n).length≤k+1:=by
 induction k with
 | zero=>intro n hn;rw [digN,dif_pos (by simpa using hn)];simp
 | succ k ih =>
   intro n hn
   rw [digN]
   by_cases h:n < 128
   ·rw [dif_pos h];simp
   ·rw [dif_neg h]
    have:=ih (n / 128) (by
     rw [Nat.pow_succ] at hn
     exact (Nat.div_lt_iff_lt_mul (by omega)).2 hn)
    simpa using this
theorem zb5 {n:Int} (h0:0≤n) (h:n≤18446744073709551615):1≤(digZ n).length∧(digZ n).length≤10:=by
 refine ⟨?_, digN_len 9 n.toNat (by have : (128 : Nat) ^ (9 + 1) = 1180591620717411303424 := by decide
                                    rw [this];omega)⟩
 have:=(digZ_enc h0).2.2
 cases hd:digZ n with
 | nil=>exact absurd hd this
 | cons a tl=>simp
/-! ### what bytes begin with -/
/-! the number of a beginning -/
/-! from places to lists, and back -/
/-! ### signs -/
def foldZ (v:Int):Int:=if 0≤v then 2 * v else 2 * (-(v+1))+1
theorem foldZ_bd {v:Int} (h1 : -9223372036854775808≤v) (h2:v≤9223372036854775807):0≤foldZ v∧foldZ v≤18446744073709551615:=by
 unfold foldZ;split <;> omega
end Go.Proofs.YtfgdfignoakkaaaGreatDoor.LebNum
end
section
namespace Go.Proofs.YtfgdfignoakkaaaGreatDoor.CLeb
set_option maxRecDepth 100000
open Go Go.ChangeShapes Go.WideShapes Go.ChangeAt Go.RowKit
open LebNum
set_option linter.unusedVariables false
def Owned (w:World) (T size n:Nat) (xs:List Value) (e:Ending) (w':World):Prop :=
 ∃ v,e=.returned v∧w'.ownsRow w.heap.size T size v n xs∧Below w.heap.size w w'
theorem info_u8:(Tryz.prog.info? 5).map (fun i=>(i.zero,i.size,i.bytes))=some (some (.int .u8 0),1,1):=by kernel_rfl
def zao (zs:List Int):List Value:=zs.map (.int .u8)
theorem put (n:Int) (h0:0≤n) (h1:n≤18446744073709551615) (w:World) :
  Calls Tryz.prog 45 #[.int .u64 n] w (Owned w 5 1 (digZ n).length (zao (digZ n))):=by
 have hl:=(zb5 h0 h1).2
 have HL:=Lib.hid hl
 clear hl
 go_enter Tryz.func45,Tryz.ntmps45
 obtain⟨i0,hi0,hi1,hi2,hi3⟩:=info_parts info_u8
 go_wp2_with fail
 go_loopw [0,3] (fun a b wr=>∃ (m:Int) (pre:List Int),0≤m∧m≤18446744073709551615∧a=.int .u64 m∧Hid (pre ++ digZ m=digZ n)∧Hid (wr.ownsRow w.heap.size 5 1 b pre.length (zao pre))∧Hid (Below w.heap.size w wr)) (fun a _ _=>(intOf a).toNat)
 case atStart=>exact⟨n,[],h0,h1,rfl,Lib.hid rfl,Lib.hid ⟨by simp [zao],.inl ⟨rfl,rfl⟩⟩,Lib.hid (Below.refl _ _)⟩
 case round =>
  obtain⟨m,pre,hm0,hm1,rfl,hpre,hown,hb⟩:=hrel
  have hplen:pre.length+(digZ m).length≤10:=by have:=congrArg List.length hpre.out;simp at this;have:=HL.out;omega
  have hml:=(zb5 hm0 hm1).1
  by_cases hlt:m < 128
  ·have hd:=digZ_lo hm0 hlt
   go_wp2_with (at_builtin;refine Kit.zaj _ rfl (.tmp 15) (.tmp 18) _ rfl w.heap.size 5 i0 (.int .u8 0) 1 1 Tryz.underlying27 hi0 hi1 hi2 hi3 rfl (by decide) _ pre.length (zao pre) rfl (hown.out.alloc _) _ _ 1 1 [.int .u8 m] rfl rfl (Kit.Rd.new _ _ _ (Nat.lt_succ_self _)) (Kit.zbh .u8 [m]) (by unfold maxLen;omega) (by omega) (by have:=hb.out.size;simp;omega) ?_;intro v1 w1 hown1 hg1 hat1)
   have hfin:pre ++ [m]=digZ n:=by rw [← hpre.out,hd]
   have hB:Below w.heap.size w w1:=(hb.out.alloc hb.out.size _).grown hg1 (Nat.le_trans hb.out.size (by simp)) (fun q hq=>Kit.zam hown.out q hq)
   have HO:Hid (w1.ownsRow w.heap.size 5 1 v1 (digZ n).length (zao (digZ n))):=by
    rw [← hfin];exact Lib.hid (by simpa [zao] using hown1)
   have HB:=Lib.hid hB
   clear hown1 hB hfin hd hg1 hat1
   go_wp2
   go_ret
   exact⟨_,rfl,HO.out,HB.out⟩
  ·have hd:=digZ_hi (n:=m) (by omega)
   go_wp2_with (at_builtin;refine Kit.zaj _ rfl (.tmp 8) (.tmp 13) _ rfl w.heap.size 5 i0 (.int .u8 0) 1 1 Tryz.underlying27 hi0 hi1 hi2 hi3 rfl (by decide) _ pre.length (zao pre) rfl (hown.out.alloc _) _ _ 1 1 [.int .u8 (128+m % 128)] rfl rfl (Kit.Rd.new _ _ _ (Nat.lt_succ_self _)) (Kit.zbh .u8 [128+m % 128]) (by unfold maxLen;omega) (by omega) (by have:=hb.out.size;simp;omega) ?_;intro v1 w1 hown1 hg1 hat1)
   have hB:Below w.heap.size w w1:=(hb.out.alloc hb.out.size _).grown hg1 (Nat.le_trans hb.out.size (by simp)) (fun q hq=>Kit.zam hown.out q hq)
   have HO:Hid (w1.ownsRow w.heap.size 5 1 v1 (pre ++ [128+m % 128]).length (zao (pre ++ [128+m % 128]))):=by
    exact Lib.hid (by simpa [zao] using hown1)
   have HP:Hid ((pre ++ [128+m % 128]) ++ digZ (m / 128)=digZ n):=by
    rw [List.append_assoc, ← hpre.out,hd];rfl
   have HB:=Lib.hid hB
   clear hown1 hB hd hg1 hat1
   go_wp2
   go_roundw
   case rel=>exact⟨m / 128,_,by omega,by omega,rfl,HP,HO,HB⟩
   case measure=>simp [intOf];omega
end Go.Proofs.YtfgdfignoakkaaaGreatDoor.CLeb
end
