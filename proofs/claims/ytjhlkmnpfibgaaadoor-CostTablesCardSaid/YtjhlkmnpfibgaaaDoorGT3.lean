/- -/
import Derived.Test.YtjhlkmnpfibgaaaDoorRows
import Derived.Test.YtjhlkmnpfibgaaaDoorGT2
open Go.Lib (hid)
open Nat (le_refl lt_of_succ_lt lt_succ_self)
set_option linter.unusedVariables false
set_option linter.unusedSimpArgs false
set_option maxRecDepth 100000
set_option maxHeartbeats 16000000
namespace Go.Proofs.YtjhlkmnpfibgaaaDoor
section
namespace CSat
open Go.ChangeShapes Go.WideShapes Go.ChangeAt Go.RowKit
open Plain
theorem ret_int {k:IntKind} {a b:Int} (h:a=b):Ending.returned (.int k a)=.returned (.int k b):=by rw [h]
theorem size (a:Int) (ha1 : -9223372036854775808≤a) (ha2:a≤9223372036854775807) (w:World) :
  Calls Tryd.prog 62 #[.int .i64 a] w fun e w'=>e=.returned (.int .u64 (a.natAbs:Int))∧w=w':=by
 by_cases h:a < 0
 ·have hx:IntKind.u64.wrap a=a+18446744073709551616:=by rw [IntKind.wrap_u64];omega
  go_enter Tryd.func62,Tryd.ntmps62
  go_wp2
  go_ret
  exact⟨ret_int (by rw [IntKind.wrap_u64];omega),rfl⟩
 ·go_enter Tryd.func62,Tryd.ntmps62
  go_wp2
  go_ret
  exact⟨ret_int (by omega),rfl⟩
theorem zbd (x y P:Nat) (hx:x < 18446744073709551616) (hy:y < 18446744073709551616) (hP:P=x * y) (h:P < 18446744073709551616) (w:World) :
  Calls Tryd.prog 61 #[.int .u64 x,.int .u64 y] w fun e w'=>e=.returned (.tuple #[.int .u64 0,.int .u64 (P:Int)])∧w=w':=by
 refine (Tryd.bits_Mul64 x y hx hy w).mono fun e w' he=>?_
 rw [← hP,Nat.div_eq_of_lt h,Nat.mod_eq_of_lt h] at he
 exact⟨he.1,he.2.symm⟩
def BigHigh (w:World) (e:Ending) (w':World):Prop:=∃ h l:Int,1≤h∧(h != 0)=true∧e=.returned (.tuple #[.int .u64 h,.int .u64 l])∧w=w'
theorem mul64_big (x y:Nat) (hx:x < 18446744073709551616) (hy:y < 18446744073709551616) (h:18446744073709551616≤x * y) (w:World) :
  Calls Tryd.prog 61 #[.int .u64 x,.int .u64 y] w (BigHigh w):=by
 refine (Tryd.bits_Mul64 x y hx hy w).mono fun e w' he=>?_
 have h1:1≤x * y / 18446744073709551616:=(Nat.le_div_iff_mul_le (by omega)).2 (by omega)
 generalize x * y / 18446744073709551616=q at h1 he
 exact⟨q,_,by omega,by rw [bne_iff_ne];omega,he.1,he.2.symm⟩
theorem abs_mul (a b:Int):(a * b).natAbs=a.natAbs * b.natAbs:=Int.natAbs_mul a b
theorem neg_back (P:Nat) (h:P≤9223372036854775808):Ending.returned (.tuple #[.int .i64 (wrap64 (IntKind.u64.wrap (-(P:Int)))),.bool true])=Ending.returned (.tuple #[.int .i64 (-(P:Int)),.bool true]):=by
 have:wrap64 (IntKind.u64.wrap (-(P:Int))) = -(P:Int):=by rw [IntKind.wrap_u64];unfold wrap64;omega
 rw [this]
theorem times (a b:Int) (ha1 : -9223372036854775808≤a) (ha2:a≤9223372036854775807) (hb1 : -9223372036854775808≤b) (hb2:b≤9223372036854775807) (w:World) :
  Calls Tryd.prog 54 #[.int .i64 a,.int .i64 b] w fun e w'=>e=.returned (.tuple #[.int .i64 (fitZ (a * b)),.bool (fits (a * b))])∧w=w':=by
 have hm:=abs_mul a b
 have hA:a.natAbs < 18446744073709551616:=by omega
 have hB:b.natAbs < 18446744073709551616:=by omega
 by_cases hbig:18446744073709551616≤a.natAbs * b.natAbs
 ·have h2:a * b < -9223372036854775808∨9223372036854775807 < a * b:=by omega
  rw [fitZ_no h2,fits_no h2]
  have H:=hid hbig
  clear hm h2 hbig
  go_enter Tryd.func54,Tryd.ntmps54
  go_wp2_with (first | (go_at_call 62;refine (size _ (by omega) (by omega) _).mono ?_;rintro e w' ⟨rfl,rfl⟩) | (go_at_call 61;refine (mul64_big _ _ hA hB H.out _).mono ?_;rintro e w' ⟨h,l,h1,h2,rfl,rfl⟩))
  go_ret2
  exact⟨rfl,rfl⟩
 ·obtain⟨P,hP⟩:∃ P,P=a.natAbs * b.natAbs:=⟨_,rfl⟩
  have hsm:P < 18446744073709551616:=by omega
  have key:(((a < 0)=(b < 0))→a * b=P)∧(((a < 0)≠(b < 0))→a * b = - (P:Int)):=by
   have hs:(a * b=P)∨(a * b = -(P:Int)):=by omega
   constructor
   ·intro hsg
    by_cases ha:a < 0
    ·have hb:b < 0:=hsg ▸ ha
     have:=Int.mul_pos_of_neg_of_neg ha hb
     omega
    ·have hb:¬ b < 0:=hsg ▸ ha
     have:=Int.mul_nonneg (Int.not_lt.1 ha) (Int.not_lt.1 hb)
     omega
   ·intro hsg
    by_cases ha:a < 0
    ·have hb:¬ b < 0:=fun h=>hsg (by simp [ha,h])
     have:=Int.mul_nonpos_of_nonpos_of_nonneg (Int.le_of_lt ha) (Int.not_lt.1 hb)
     omega
    ·have hb:b < 0:=by
      by_cases hb:b < 0
      ·exact hb
      ·exact absurd (by simp [ha,hb]) hsg
     have:=Int.mul_nonpos_of_nonneg_of_nonpos (Int.not_lt.1 ha) (Int.le_of_lt hb)
     omega
  obtain⟨k1,k2⟩:=key
  clear hm hbig
  have H:=hid hP
  clear hP
  by_cases ha:a < 0 <;> by_cases hb:b < 0
  ·rw [k1 (by simp [ha,hb])];clear k1 k2
   have da:decide (a < 0)=true:=by simp;omega
   have db:decide (b < 0)=true:=by simp;omega
   by_cases hq:P≤9223372036854775807
   ·rw [fitZ_yes (by omega) (by omega),fits_yes (by omega) (by omega)]
    go_enter Tryd.func54,Tryd.ntmps54
    go_wp2_with (first | (go_at_call 62;refine (size _ (by omega) (by omega) _).mono ?_;rintro e w' ⟨rfl,rfl⟩) | (go_at_call 61;refine (zbd _ _ P hA hB H.out (by omega) _).mono ?_;rintro e w' ⟨rfl,rfl⟩))
    go_ret2
    exact⟨rfl,rfl⟩
   ·rw [fitZ_no (by omega),fits_no (by omega)]
    go_enter Tryd.func54,Tryd.ntmps54
    go_wp2_with (first | (go_at_call 62;refine (size _ (by omega) (by omega) _).mono ?_;rintro e w' ⟨rfl,rfl⟩) | (go_at_call 61;refine (zbd _ _ P hA hB H.out (by omega) _).mono ?_;rintro e w' ⟨rfl,rfl⟩))
    go_ret2
    exact⟨rfl,rfl⟩
  ·rw [k2 (by simp [ha,hb])];clear k1 k2
   have da:decide (a < 0)=true:=by simp;omega
   have db:decide (b < 0)=false:=by simp;omega
   by_cases hq:P≤9223372036854775808
   ·rw [fitZ_yes (by omega) (by omega),fits_yes (by omega) (by omega)]
    go_enter Tryd.func54,Tryd.ntmps54
    go_wp2_with (first | (go_at_call 62;refine (size _ (by omega) (by omega) _).mono ?_;rintro e w' ⟨rfl,rfl⟩) | (go_at_call 61;refine (zbd _ _ P hA hB H.out (by omega) _).mono ?_;rintro e w' ⟨rfl,rfl⟩))
    go_ret2
    exact⟨neg_back P (by omega),rfl⟩
   ·rw [fitZ_no (by omega),fits_no (by omega)]
    go_enter Tryd.func54,Tryd.ntmps54
    go_wp2_with (first | (go_at_call 62;refine (size _ (by omega) (by omega) _).mono ?_;rintro e w' ⟨rfl,rfl⟩) | (go_at_call 61;refine (zbd _ _ P hA hB H.out (by omega) _).mono ?_;rintro e w' ⟨rfl,rfl⟩))
    go_ret2
    exact⟨rfl,rfl⟩
  ·rw [k2 (by simp [ha,hb])];clear k1 k2
   have da:decide (a < 0)=false:=by simp;omega
   have db:decide (b < 0)=true:=by simp;omega
   by_cases hq:P≤9223372036854775808
   ·rw [fitZ_yes (by omega) (by omega),fits_yes (by omega) (by omega)]
    go_enter Tryd.func54,Tryd.ntmps54
    go_wp2_with (first | (go_at_call 62;refine (size _ (by omega) (by omega) _).mono ?_;rintro e w' ⟨rfl,rfl⟩) | (go_at_call 61;refine (zbd _ _ P hA hB H.out (by omega) _).mono ?_;rintro e w' ⟨rfl,rfl⟩))
    go_ret2
    exact⟨neg_back P (by omega),rfl⟩
   ·rw [fitZ_no (by omega),fits_no (by omega)]
    go_enter Tryd.func54,Tryd.ntmps54
    go_wp2_with (first | (go_at_call 62;refine (size _ (by omega) (by omega) _).mono ?_;rintro e w' ⟨rfl,rfl⟩) | (go_at_call 61;refine (zbd _ _ P hA hB H.out (by omega) _).mono ?_;rintro e w' ⟨rfl,rfl⟩))
    go_ret2
    exact⟨rfl,rfl⟩
  ·rw [k1 (by simp [ha,hb])];clear k1 k2
   have da:decide (a < 0)=false:=by simp;omega
   have db:decide (b < 0)=false:=by simp;omega
   by_cases hq:P≤9223372036854775807
   ·rw [fitZ_yes (by omega) (by omega),fits_yes (by omega) (by omega)]
    go_enter Tryd.func54,Tryd.ntmps54
    go_wp2_with (first | (go_at_call 62;refine (size _ (by omega) (by omega) _).mono ?_;rintro e w' ⟨rfl,rfl⟩) | (go_at_call 61;refine (zbd _ _ P hA hB H.out (by omega) _).mono ?_;rintro e w' ⟨rfl,rfl⟩))
    go_ret2
    exact⟨rfl,rfl⟩
   ·rw [fitZ_no (by omega),fits_no (by omega)]
    go_enter Tryd.func54,Tryd.ntmps54
    go_wp2_with (first | (go_at_call 62;refine (size _ (by omega) (by omega) _).mono ?_;rintro e w' ⟨rfl,rfl⟩) | (go_at_call 61;refine (zbd _ _ P hA hB H.out (by omega) _).mono ?_;rintro e w' ⟨rfl,rfl⟩))
    go_ret2
    exact⟨rfl,rfl⟩
end CSat
end
end Go.Proofs.YtjhlkmnpfibgaaaDoor
