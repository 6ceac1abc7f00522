/- Texts of this seat, one behind the other: Plain, Shelf, Sat, WheelMem, PoolNum. -/
import Derived.WalkKit
import Derived.Laws.BitsLemmas
import Derived.Lib.Hide
import Derived.Shelf.Bits.Mul64
import Derived.Test.YtkpngknbiecdiaaGreatDoorProg
import Derived.Test.YtkpngknbiecdiaaGreatDoorRows
import Derived.ProofKit
import Derived.OpenShut
import Derived.Laws.Bits64
import Derived.Outline
import Derived.Deep.MidRow
import Derived.Test.YtkpngknbiecdiaaGreatDoorGB2
section
namespace Go.Proofs.YtkpngknbiecdiaaGreatDoor.Plain
open Go Go.RowKit
def clampZ (v lo hi:Int):Int:=if v < lo then lo else if v > hi then hi else v
def fits (v:Int):Bool:=decide (-9223372036854775808≤v∧v≤9223372036854775807)
def fitZ (v:Int):Int:=if fits v then v else 0
theorem fits_yes {v:Int} (h1 : -9223372036854775808≤v) (h2:v≤9223372036854775807):fits v=true:=by simp [fits,h1,h2]
theorem fits_no {v:Int} (h:v < -9223372036854775808∨9223372036854775807 < v):fits v=false:=by
 simp [fits];omega
theorem clampZ_lo {v lo hi:Int} (h:v < lo):lo=clampZ v lo hi:=by unfold clampZ;rw [if_pos h]
theorem clampZ_hi {v lo hi:Int} (h:lo≤v) (h2:hi < v):hi=clampZ v lo hi:=by unfold clampZ;rw [if_neg (by omega),if_pos h2]
theorem clampZ_in {v lo hi:Int} (h:lo≤v) (h2:v≤hi):v=clampZ v lo hi:=by unfold clampZ;rw [if_neg (by omega),if_neg (by omega)]
theorem fitZ_yes {v:Int} (h1 : -9223372036854775808≤v) (h2:v≤9223372036854775807):fitZ v=v:=by unfold fitZ;rw [if_pos (fits_yes h1 h2)]
theorem fitZ_no {v:Int} (h:v < -9223372036854775808∨9223372036854775807 < v):fitZ v=0:=by unfold fitZ;rw [if_neg (by simp [fits_no h])]
end Go.Proofs.YtkpngknbiecdiaaGreatDoor.Plain
end
section
namespace Go.Proofs
open Go.Shelf
def Tryz.lays264_ren:Go.Shelf.Ren:=⟨fun | 264=>149 | n=>n,fun | 53=>184 | 46=>188 | n=>n,fun | n=>n⟩
theorem Tryz.lays264:Go.Proofs.Lays.n264 Tryz.prog Tryz.lays264_ren := {
 mixed:=by kernel_rfl
 f264:=Tryz.func149.trans (congrArg some (by kernel_rfl))
 t46:=Tryz.underlying188
 a46:=Tryz.isAgg188
 z46:=Tryz.sizeOf188
 v46:=Tryz.zeroValue188
 t53:=Tryz.underlying184
 a53:=Tryz.isAgg184
 z53:=Tryz.sizeOf184
 v53:=Tryz.zeroValue184 }
open Go.RowKit Go.Lib in
theorem Tryz.bits_Mul64 (x y:Nat) (hx:x < 18446744073709551616) (hy:y < 18446744073709551616) (w:World) :
  Calls Tryz.prog 149 #[.int .u64 x,.int .u64 y] w fun e w'=>e=.returned (.tuple #[.int .u64 ((x * y / 18446744073709551616:Nat):Int),.int .u64 ((x * y % 18446744073709551616:Nat):Int)])∧w'=w:=Any.bits_Mul64 Tryz.lays264 x y hx hy w
def Tryz.lays212_ren:Go.Shelf.Ren:=⟨fun | 212=>152 | 263=>157 | 264=>149 | n=>n,fun | 46=>188 | 51=>196 | 146=>197 | 53=>184 | 148=>185 | n=>n,fun | n=>n⟩
theorem Tryz.lays212:Go.Proofs.Lays.n212 Tryz.prog Tryz.lays212_ren := {
 mixed:=by kernel_rfl
 f212:=Tryz.func152.trans (congrArg some (by kernel_rfl))
 f263:=Tryz.func157.trans (congrArg some (by kernel_rfl))
 f264:=Tryz.func149.trans (congrArg some (by kernel_rfl))
 t46:=Tryz.underlying188
 a46:=Tryz.isAgg188
 z46:=Tryz.sizeOf188
 v46:=Tryz.zeroValue188
 t51:=Tryz.underlying196
 a51:=Tryz.isAgg196
 z51:=Tryz.sizeOf196
 v51:=Tryz.zeroValue196
 t53:=Tryz.underlying184
 a53:=Tryz.isAgg184
 z53:=Tryz.sizeOf184
 v53:=Tryz.zeroValue184
 t146:=Tryz.underlying197
 a146:=Tryz.isAgg197
 z146:=Tryz.sizeOf197
 v146:=Tryz.zeroValue197
 t148:=Tryz.underlying185
 a148:=Tryz.isAgg185
 z148:=Tryz.sizeOf185
 v148:=Tryz.zeroValue185 }
open Go.RowKit Go.Lib in
theorem Tryz.bits_Mul (x y:Nat) (hx:x < 18446744073709551616) (hy:y < 18446744073709551616) (w:World) :
  Calls Tryz.prog 152 #[.int .u64 x,.int .u64 y] w fun e w'=>e=.returned (.tuple #[.int .u64 ((x * y / 18446744073709551616:Nat):Int),.int .u64 ((x * y % 18446744073709551616:Nat):Int)])∧w'=w:=Any.bits_Mul Tryz.lays212 x y hx hy w
end Go.Proofs
end
section
namespace Go.Proofs.YtkpngknbiecdiaaGreatDoor.CSat
open Go.ChangeShapes Go.WideShapes Go.ChangeAt Go.RowKit
open Plain
set_option linter.unusedVariables false
theorem ret_int {k:IntKind} {a b:Int} (h:a=b):Ending.returned (.int k a)=.returned (.int k b):=by rw [h]
theorem clamp (v lo hi:Int) (hl1 : -128≤lo) (hl2:lo≤127) (hh1 : -128≤hi) (hh2:hi≤127) (w:World) :
  Calls Tryz.prog 140 #[.int .i64 v,.int .i8 lo,.int .i8 hi] w fun e w'=>e=.returned (.int .i8 (clampZ v lo hi))∧w=w':=by
 by_cases h1:v < lo
 ·go_enter Tryz.func140,Tryz.ntmps140
  go_wp2
  go_ret
  exact⟨ret_int (by exact clampZ_lo (by omega)),rfl⟩
 ·by_cases h2:v > hi
  ·go_enter Tryz.func140,Tryz.ntmps140
   go_wp2
   go_ret
   exact⟨ret_int (by exact clampZ_hi (by omega) (by omega)),rfl⟩
  ·go_enter Tryz.func140,Tryz.ntmps140
   go_wp2
   go_ret
   exact⟨ret_int (by exact clampZ_in (by omega) (by omega)),rfl⟩
theorem mul_bd (a b:Int) (ha1 : -2147483648≤a) (ha2:a≤2147483647) (hb1 : -2147483648≤b) (hb2:b≤2147483647) : -4611686018427387904≤a * b∧a * b≤4611686018427387904:=by
 have h:(a * b).natAbs≤2147483648 * 2147483648:=by
  rw [Int.natAbs_mul];exact Nat.mul_le_mul (by omega) (by omega)
 omega
theorem size (a:Int) (ha1 : -9223372036854775808≤a) (ha2:a≤9223372036854775807) (w:World) :
  Calls Tryz.prog 150 #[.int .i64 a] w fun e w'=>e=.returned (.int .u64 (a.natAbs:Int))∧w=w':=by
 by_cases h:a < 0
 ·have hx:IntKind.u64.wrap a=a+18446744073709551616:=by rw [IntKind.wrap_u64];omega
  go_enter Tryz.func150,Tryz.ntmps150
  go_wp2
  go_ret
  exact⟨ret_int (by rw [IntKind.wrap_u64];omega),rfl⟩
 ·go_enter Tryz.func150,Tryz.ntmps150
  go_wp2
  go_ret
  exact⟨ret_int (by omega),rfl⟩
theorem mul64_small (x y P:Nat) (hx:x < 18446744073709551616) (hy:y < 18446744073709551616) (hP:P=x * y) (h:P < 18446744073709551616) (w:World) :
  Calls Tryz.prog 149 #[.int .u64 x,.int .u64 y] w fun e w'=>e=.returned (.tuple #[.int .u64 0,.int .u64 (P:Int)])∧w=w':=by
 refine (Tryz.bits_Mul64 x y hx hy w).mono fun e w' he=>?_
 rw [← hP,Nat.div_eq_of_lt h,Nat.mod_eq_of_lt h] at he
 exact⟨he.1,he.2.symm⟩
def BigHigh (w:World) (e:Ending) (w':World):Prop:=∃ h l:Int,1≤h∧(h != 0)=true∧e=.returned (.tuple #[.int .u64 h,.int .u64 l])∧w=w'
theorem mul64_big (x y:Nat) (hx:x < 18446744073709551616) (hy:y < 18446744073709551616) (h:18446744073709551616≤x * y) (w:World) :
  Calls Tryz.prog 149 #[.int .u64 x,.int .u64 y] w (BigHigh w):=by
 refine (Tryz.bits_Mul64 x y hx hy w).mono fun e w' he=>?_
 have h1:1≤x * y / 18446744073709551616:=(Nat.le_div_iff_mul_le (by omega)).2 (by omega)
 generalize x * y / 18446744073709551616=q at h1 he
 exact⟨q,_,by omega,by rw [bne_iff_ne];omega,he.1,he.2.symm⟩
theorem abs_mul (a b:Int):(a * b).natAbs=a.natAbs * b.natAbs:=Int.natAbs_mul a b
theorem neg_back (P:Nat) (h:P≤9223372036854775808):Ending.returned (.tuple #[.int .i64 (wrap64 (IntKind.u64.wrap (-(P:Int)))),.bool true])=Ending.returned (.tuple #[.int .i64 (-(P:Int)),.bool true]):=by
 have:wrap64 (IntKind.u64.wrap (-(P:Int))) = -(P:Int):=by rw [IntKind.wrap_u64];unfold wrap64;omega
 rw [this]
theorem times (a b:Int) (ha1 : -9223372036854775808≤a) (ha2:a≤9223372036854775807) (hb1 : -9223372036854775808≤b) (hb2:b≤9223372036854775807) (w:World) :
  Calls Tryz.prog 136 #[.int .i64 a,.int .i64 b] w fun e w'=>e=.returned (.tuple #[.int .i64 (fitZ (a * b)),.bool (fits (a * b))])∧w=w':=by
 have hm:=abs_mul a b
 have hA:a.natAbs < 18446744073709551616:=by omega
 have hB:b.natAbs < 18446744073709551616:=by omega
 by_cases hbig:18446744073709551616≤a.natAbs * b.natAbs
 ·have h2:a * b < -9223372036854775808∨9223372036854775807 < a * b:=by omega
  rw [fitZ_no h2,fits_no h2]
  have H:=Lib.hid hbig
  clear hm h2 hbig
  go_enter Tryz.func136,Tryz.ntmps136
  go_wp2_with (first | (go_at_call 150;refine (size _ (by omega) (by omega) _).mono ?_;rintro e w' ⟨rfl,rfl⟩) | (go_at_call 149;refine (mul64_big _ _ hA hB H.out _).mono ?_;rintro e w' ⟨h,l,h1,h2,rfl,rfl⟩))
  go_ret2
  exact⟨rfl,rfl⟩
 ·obtain⟨P,hP⟩:∃ P,P=a.natAbs * b.natAbs:=⟨_,rfl⟩
  have hsm:P < 18446744073709551616:=by omega
  have key:(((a < 0)=(b < 0))→a * b=P)∧(((a < 0)≠(b < 0))→a * b = - (P:Int)):=by
   have hs:(a * b=P)∨(a * b = -(P:Int)):=by omega
   constructor
   ·intro hsg
    by_cases ha:a < 0
    ·have hb:b < 0:=hsg ▸ ha
     have:=Int.mul_pos_of_neg_of_neg ha hb
     omega
    ·have hb:¬ b < 0:=hsg ▸ ha
     have:=Int.mul_nonneg (Int.not_lt.1 ha) (Int.not_lt.1 hb)
     omega
   ·intro hsg
    by_cases ha:a < 0
    ·have hb:¬ b < 0:=fun h=>hsg (by simp [ha,h])
     have:=Int.mul_nonpos_of_nonpos_of_nonneg (Int.le_of_lt ha) (Int.not_lt.1 hb)
     omega
    ·have hb:b < 0:=by
      by_cases hb:b < 0
      ·exact hb
      ·exact absurd (by simp [ha,hb]) hsg
     have:=Int.mul_nonpos_of_nonneg_of_nonpos (Int.not_lt.1 ha) (Int.le_of_lt hb)
     omega
  obtain⟨k1,k2⟩:=key
  clear hm hbig
  have H:=Lib.hid hP
  clear hP
  by_cases ha:a < 0 <;> by_cases hb:b < 0
  ·rw [k1 (by simp [ha,hb])];clear k1 k2
   have da:decide (a < 0)=true:=by simp;omega
   have db:decide (b < 0)=true:=by simp;omega
   by_cases hq:P≤9223372036854775807
   ·rw [fitZ_yes (by omega) (by omega),fits_yes (by omega) (by omega)]
    go_enter Tryz.func136,Tryz.ntmps136
    go_wp2_with (first | (go_at_call 150;refine (size _ (by omega) (by omega) _).mono ?_;rintro e w' ⟨rfl,rfl⟩) | (go_at_call 149;refine (mul64_small _ _ P hA hB H.out (by omega) _).mono ?_;rintro e w' ⟨rfl,rfl⟩))
    go_ret2
    exact⟨rfl,rfl⟩
   ·rw [fitZ_no (by omega),fits_no (by omega)]
    go_enter Tryz.func136,Tryz.ntmps136
    go_wp2_with (first | (go_at_call 150;refine (size _ (by omega) (by omega) _).mono ?_;rintro e w' ⟨rfl,rfl⟩) | (go_at_call 149;refine (mul64_small _ _ P hA hB H.out (by omega) _).mono ?_;rintro e w' ⟨rfl,rfl⟩))
    go_ret2
    exact⟨rfl,rfl⟩
  ·rw [k2 (by simp [ha,hb])];clear k1 k2
   have da:decide (a < 0)=true:=by simp;omega
   have db:decide (b < 0)=false:=by simp;omega
   by_cases hq:P≤9223372036854775808
   ·rw [fitZ_yes (by omega) (by omega),fits_yes (by omega) (by omega)]
    go_enter Tryz.func136,Tryz.ntmps136
    go_wp2_with (first | (go_at_call 150;refine (size _ (by omega) (by omega) _).mono ?_;rintro e w' ⟨rfl,rfl⟩) | (go_at_call 149;refine (mul64_small _ _ P hA hB H.out (by omega) _).mono ?_;rintro e w' ⟨rfl,rfl⟩))
    go_ret2
    exact⟨neg_back P (by omega),rfl⟩
   ·rw [fitZ_no (by omega),fits_no (by omega)]
    go_enter Tryz.func136,Tryz.ntmps136
    go_wp2_with (first | (go_at_call 150;refine (size _ (by omega) (by omega) _).mono ?_;rintro e w' ⟨rfl,rfl⟩) | (go_at_call 149;refine (mul64_small _ _ P hA hB H.out (by omega) _).mono ?_;rintro e w' ⟨rfl,rfl⟩))
    go_ret2
    exact⟨rfl,rfl⟩
  ·rw [k2 (by simp [ha,hb])];clear k1 k2
   have da:decide (a < 0)=false:=by simp;omega
   have db:decide (b < 0)=true:=by simp;omega
   by_cases hq:P≤9223372036854775808
   ·rw [fitZ_yes (by omega) (by omega),fits_yes (by omega) (by omega)]
    go_enter Tryz.func136,Tryz.ntmps136
    go_wp2_with (first | (go_at_call 150;refine (size _ (by omega) (by omega) _).mono ?_;rintro e w' ⟨rfl,rfl⟩) | (go_at_call 149;refine (mul64_small _ _ P hA hB H.out (by omega) _).mono ?_;rintro e w' ⟨rfl,rfl⟩))
    go_ret2
    exact⟨neg_back P (by omega),rfl⟩
   ·rw [fitZ_no (by omega),fits_no (by omega)]
    go_enter Tryz.func136,Tryz.ntmps136
    go_wp2_with (first | (go_at_call 150;refine (size _ (by omega) (by omega) _).mono ?_;rintro e w' ⟨rfl,rfl⟩) | (go_at_call 149;refine (mul64_small _ _ P hA hB H.out (by omega) _).mono ?_;rintro e w' ⟨rfl,rfl⟩))
    go_ret2
    exact⟨rfl,rfl⟩
  ·rw [k1 (by simp [ha,hb])];clear k1 k2
   have da:decide (a < 0)=false:=by simp;omega
   have db:decide (b < 0)=false:=by simp;omega
   by_cases hq:P≤9223372036854775807
   ·rw [fitZ_yes (by omega) (by omega),fits_yes (by omega) (by omega)]
    go_enter Tryz.func136,Tryz.ntmps136
    go_wp2_with (first | (go_at_call 150;refine (size _ (by omega) (by omega) _).mono ?_;rintro e w' ⟨rfl,rfl⟩) | (go_at_call 149;refine (mul64_small _ _ P hA hB H.out (by omega) _).mono ?_;rintro e w' ⟨rfl,rfl⟩))
    go_ret2
    exact⟨rfl,rfl⟩
   ·rw [fitZ_no (by omega),fits_no (by omega)]
    go_enter Tryz.func136,Tryz.ntmps136
    go_wp2_with (first | (go_at_call 150;refine (size _ (by omega) (by omega) _).mono ?_;rintro e w' ⟨rfl,rfl⟩) | (go_at_call 149;refine (mul64_small _ _ P hA hB H.out (by omega) _).mono ?_;rintro e w' ⟨rfl,rfl⟩))
    go_ret2
    exact⟨rfl,rfl⟩
end Go.Proofs.YtkpngknbiecdiaaGreatDoor.CSat
end
section
namespace Go.Proofs.YtkpngknbiecdiaaGreatDoor.CFour
open Go Go.ChangeShapes Go.WideShapes Go.ChangeAt Go.RowKit
open FloatNum
set_option linter.unusedVariables false
def set4 (g:Nat) (L:Nat→Value) (w:World):World:=(((w.setCell ⟨g,0,none⟩ (L 0)).setCell ⟨g,1,none⟩ (L 1)).setCell ⟨g,2,none⟩ (L 2)).setCell ⟨g,3,none⟩ (L 3)
theorem Four.set4 {g:Nat} {S:Nat→Value} {w:World} (h:Four g S w) (L:Nat→Value):Four g L (set4 g L w):=by
 have h4:=(((h.set (k:=0) (by omega) (L 0)).set (k:=1) (by omega) (L 1)).set (k:=2) (by omega) (L 2)).set (k:=3) (by omega) (L 3)
 refine⟨fun i hi=>(h4.1 i hi).trans ?_,h4.2.1,h4.2.2⟩
 obtain rfl | rfl | rfl | rfl:=lt4 hi <;> rfl
theorem Four.oth4 {g g':Nat} {S:Nat→Value} {w:World} (h:Four g S w) (L:Nat→Value) (hg:g≠g'):Four g S (CFour.set4 g' L w):=(((h.other (L 0) hg).other (L 1) hg).other (L 2) hg).other (L 3) hg
theorem Four.there {g:Nat} {S:Nat→Value} {w:World} (h:Four g S w):w.there g 0 4:=fun j hj=>by
 rw [Nat.zero_add]
 exact⟨by rw [h.1 j hj];rfl,h.2.1 j hj⟩
theorem one4 (a b c d:Int):(#[Value.int .i64 a,.int .i64 b,.int .i64 c,.int .i64 d].all (·.oneCell'))=true:=all_oneCell_toArray (cs:=[Value.int .i64 a,.int .i64 b,.int .i64 c,.int .i64 d]) (by intro v hv;simp at hv;rcases hv with rfl | rfl | rfl | rfl <;> rfl)
theorem oneC {S:Nat→Value} {p:Nat→G} (h:∀ i,i < 4→IsC (S i) (p i)):(#[S 0,S 1,S 2,S 3].all (·.oneCell'))=true:=by
 obtain⟨_,_,h0,_⟩:=h 0 (by omega)
 obtain⟨_,_,h1,_⟩:=h 1 (by omega)
 obtain⟨_,_,h2,_⟩:=h 2 (by omega)
 obtain⟨_,_,h3,_⟩:=h 3 (by omega)
 rw [h0,h1,h2,h3]
 exact all_oneCell_toArray (cs:=[_,_,_,_]) (by intro v hv;simp at hv;rcases hv with rfl | rfl | rfl | rfl <;> rfl)
theorem below_set4 {B g:Nat} {a w:World} (h:Below B a w) (hg:B≤g) (L:Nat→Value):Below B a (set4 g L w):=(((h.setCell (p:=⟨g,0,none⟩) hg (L 0)).setCell (p:=⟨g,1,none⟩) hg (L 1)).setCell (p:=⟨g,2,none⟩) hg (L 2)).setCell (p:=⟨g,3,none⟩) hg (L 3)
def Two (g:Nat) (a b:Value) (w:World):Prop:=w.cell? ⟨g,0,none⟩=some a∧w.cell? ⟨g,1,none⟩=some b∧(∀ i,i < 2→w.frozen? ⟨g,i,none⟩=false)∧g < w.heap.size
theorem Two.below {g:Nat} {a b:Value} {w w':World} (h:Two g a b w) {B:Nat} (hb:Below B w w') (hg:g < B):Two g a b w':=by
 refine⟨?_,?_,fun i hi=>?_,Nat.lt_of_lt_of_le h.2.2.2 hb.size⟩
 ·rw [hb.cell (p:=⟨g,0,none⟩) hg];exact h.1
 ·rw [hb.cell (p:=⟨g,1,none⟩) hg];exact h.2.1
 ·rw [hb.frozen (p:=⟨g,i,none⟩) hg];exact h.2.2.1 i hi
theorem Two.drew {g:Nat} {a b:Value} {w:World} (h:Two g a b w):Two g a b w.drew:=h
theorem Two.new (w:World) (v u:Value) (T:TypeId):Two w.heap.size v u (w.alloc (.cells #[v,u] T)):=by
 refine⟨by go_cell,by go_cell,fun i hi=>?_,by simp⟩
 rcases i with _ | _ | i
 all_goals first | (exact absurd hi (by omega)) | go_cell
theorem Two.there {g:Nat} {a b:Value} {w:World} (h:Two g a b w):w.there g 0 2:=fun j hj=>by
 rw [Nat.zero_add]
 refine⟨?_,h.2.2.1 j hj⟩
 rcases j with _ | _ | j
 ·rw [h.1];rfl
 ·rw [h.2.1];rfl
 ·omega
def set2 (g:Nat) (a b:Value) (w:World):World:=(w.setCell ⟨g,0,none⟩ a).setCell ⟨g,1,none⟩ b
theorem Two.set2 {g:Nat} {a b:Value} {w:World} (h:Two g a b w) (x y:Value):Two g x y (set2 g x y w):=by
 refine⟨?_,?_,fun i hi=>?_,?_⟩
 ·show ((w.setCell ⟨g,0,none⟩ x).setCell ⟨g,1,none⟩ y).cell? ⟨g,0,none⟩=_
  rw [World.cell?_setCell_other _ _ _ _ (by intro q;cases q)]
  exact World.cell?_setCell_same' _ _ _ (by rw [h.1];rfl)
 ·show ((w.setCell ⟨g,0,none⟩ x).setCell ⟨g,1,none⟩ y).cell? ⟨g,1,none⟩=_
  refine World.cell?_setCell_same' _ _ _ ?_
  rw [World.cell?_setCell_other _ _ _ _ (by intro q;cases q),h.2.1];rfl
 ·show ((w.setCell ⟨g,0,none⟩ x).setCell ⟨g,1,none⟩ y).frozen? _=_
  rw [World.frozen?_setCell,World.frozen?_setCell];exact h.2.2.1 i hi
 ·show _ < ((w.setCell ⟨g,0,none⟩ x).setCell ⟨g,1,none⟩ y).heap.size
  simp;exact h.2.2.2
theorem Two.oth4 {g g':Nat} {a b:Value} {w:World} (h:Two g a b w) (L:Nat→Value) (hg:g≠g'):Two g a b (CFour.set4 g' L w):=by
 have e:∀ (k:Nat) (p:Addr),p.block=g'→(⟨g,k,none⟩:Addr)≠p:=fun k p hp q=>by subst q;exact hg hp
 unfold CFour.set4
 refine⟨?_,?_,fun i hi=>?_,?_⟩
 ·rw [World.cell?_setCell_other _ _ _ _ (fun q=>hg (congrArg Addr.block q).symm),World.cell?_setCell_other _ _ _ _ (fun q=>hg (congrArg Addr.block q).symm),World.cell?_setCell_other _ _ _ _ (fun q=>hg (congrArg Addr.block q).symm),World.cell?_setCell_other _ _ _ _ (fun q=>hg (congrArg Addr.block q).symm)];exact h.1
 ·rw [World.cell?_setCell_other _ _ _ _ (fun q=>hg (congrArg Addr.block q).symm),World.cell?_setCell_other _ _ _ _ (fun q=>hg (congrArg Addr.block q).symm),World.cell?_setCell_other _ _ _ _ (fun q=>hg (congrArg Addr.block q).symm),World.cell?_setCell_other _ _ _ _ (fun q=>hg (congrArg Addr.block q).symm)];exact h.2.1
 ·simp only [World.frozen?_setCell];exact h.2.2.1 i hi
 ·simp;exact h.2.2.2
theorem below_set2 {B g:Nat} {a w:World} (h:Below B a w) (hg:B≤g) (x y:Value):Below B a (set2 g x y w):=(h.setCell (p:=⟨g,0,none⟩) hg x).setCell (p:=⟨g,1,none⟩) hg y
end Go.Proofs.YtkpngknbiecdiaaGreatDoor.CFour
end
section
namespace Go.Proofs.YtkpngknbiecdiaaGreatDoor.CPool
set_option linter.unusedVariables false
def nearZ (s m:Int):Int:=if m < 1 then 0 else if s < 0 then -((2 * -s+m) / (2 * m)) else (2 * s+m) / (2 * m)
theorem near_way {s m:Int} (hm:1≤m) (hs:0≤s):(2 * s+m) / (2 * m)=if m - s % m≤s % m then s / m+1 else s / m:=by
 have h1:0≤s % m:=Int.emod_nonneg _ (by omega)
 have h2:s % m < m:=Int.emod_lt_of_pos _ (by omega)
 have h3:m * (s / m)+s % m=s:=Int.mul_ediv_add_emod s m
 generalize s % m=r at h1 h2 h3 ⊢
 generalize s / m=q at h3 ⊢
 have e:2 * s+m=(2 * r+m)+2 * m * q:=by rw [← h3,Int.mul_assoc];omega
 rw [e,Int.add_mul_ediv_left _ _ (by omega)]
 by_cases h:m - r≤r
 ·rw [if_pos h]
  have:(2 * r+m) / (2 * m)=1:=by
   have a:1≤(2 * r+m) / (2 * m):=by rw [Int.le_ediv_iff_mul_le (by omega)];omega
   have b:(2 * r+m) / (2 * m) < 2:=by rw [Int.ediv_lt_iff_lt_mul (by omega)];omega
   omega
  omega
 ·rw [if_neg h]
  have:(2 * r+m) / (2 * m)=0:=Int.ediv_eq_zero_of_lt (by omega) (by omega)
  omega
end Go.Proofs.YtkpngknbiecdiaaGreatDoor.CPool
end
