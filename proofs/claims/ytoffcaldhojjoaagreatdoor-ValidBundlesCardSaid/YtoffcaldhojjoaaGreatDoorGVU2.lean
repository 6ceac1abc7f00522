/- -/
import Derived.Deep.RegionHeld
import Derived.Lib.Hide
import Derived.Shelf.Bits.Mul64
import Derived.Test.YtoffcaldhojjoaaGreatDoorRows
import Derived.ProofKit
import Derived.OpenShut
section
namespace Go.Proofs.YtoffcaldhojjoaaGreatDoor.Tk
open Go
section
variable {P:Program} {ops:Array Oper} {Q:Exit→Act→World→Prop} {md:Region.Mode} {S:World→Prop}
theorem at_ {i:Nat} {o:Oper} {l:List Oper} (h:ops.toList.drop i=o :: l):ops[i]?=some o:=by
 have h1:(ops.toList.drop i)[0]?=some o:=by rw [h];rfl
 rw [List.getElem?_drop,Nat.add_zero,Array.getElem?_toList] at h1
 exact h1
theorem t (i:Nat) {oi:Oper} {l:List Oper} {v:Value} {fuel:Nat} {listed:Array Bool} {a:Act} {w:World} (hi:ops.toList.drop i=oi :: l)
  (hy:YieldsIf P ops S oi v a) (hS:S w) (h:wpAnyH P md ops Q S fuel (listed.setIfInBounds i true) (a.put oi.dst v) w)
  (hs:Region.noSelect ops=true:=by kernel_rfl) (hf:Region.free md ops listed i=true:=by kernel_rfl) (hr:(Region.ready md ops listed).contains i=true:=by kernel_rfl)
  (hQ:∀ c a w,Q (.panic c) (a.put oi.dst v) w→Q (.panic c) a w:=by exact fun _ _ _ h=>h):wpAnyH P md ops Q S (fuel+1) listed a w :=
 wpAnyH_take (at_ hi) hs hf hr hQ hy hS h
theorem y (i:Nat) {oi:Oper} {l:List Oper} {v:Value} {fuel:Nat} {listed:Array Bool} {a:Act} {w:World} (hi:ops.toList.drop i=oi :: l)
  (hy:∀ w,S w→(execOp a.eval oi).run P w=.ok (.value v) w) (h:wpAnyH P md ops Q S fuel (listed.setIfInBounds i true) (a.put oi.dst v) w)
  (hS:S w:=by assumption) (hw:Region.wanted oi (yielded ops a.tmps)=true:=by rfl) (hs:Region.noSelect ops=true:=by kernel_rfl) (hf:Region.free md ops listed i=true:=by kernel_rfl) (hr:(Region.ready md ops listed).contains i=true:=by kernel_rfl)
  (hQ:∀ c a w,Q (.panic c) (a.put oi.dst v) w→Q (.panic c) a w:=by exact fun _ _ _ h=>h):wpAnyH P md ops Q S (fuel+1) listed a w :=
 wpAnyH_take (at_ hi) hs hf hr hQ (Or.inl ⟨hw,hy⟩) hS h
theorem x (i:Nat) {oi:Oper} {l:List Oper} {v:Value} {fuel:Nat} {listed:Array Bool} {a:Act} {w:World} (hi:ops.toList.drop i=oi :: l)
  (h:wpAnyH P md ops Q S fuel (listed.setIfInBounds i true) (a.put oi.dst v) w)
  (hy:∀ w,S w→(execOp a.eval oi).run P w=.ok (.value v) w:=by intro wS hSw;first | (go_simp;done) | (go_simp;with_reducible rfl))
  (hS:S w:=by assumption) (hw:Region.wanted oi (yielded ops a.tmps)=true:=by rfl) (hs:Region.noSelect ops=true:=by kernel_rfl) (hf:Region.free md ops listed i=true:=by kernel_rfl) (hr:(Region.ready md ops listed).contains i=true:=by kernel_rfl)
  (hQ:∀ c a w,Q (.panic c) (a.put oi.dst v) w→Q (.panic c) a w:=by exact fun _ _ _ h=>h):wpAnyH P md ops Q S (fuel+1) listed a w :=
 wpAnyH_take (at_ hi) hs hf hr hQ (Or.inl ⟨hw,hy⟩) hS h
theorem put:(∀ (a:Act) (v:Value),a.put none v=a)∧(∀ (a:Act) (t:Tmp) (v:Value),a.put (some t) v = { a with tmps:=a.tmps.setIfInBounds t v }) ∧
  (∀ (l:List Value) (i:Nat) (v:Value),l.toArray.setIfInBounds i v=(l.set i v).toArray)∧(∀ (x v:Value) (l:List Value),(x :: l).set 0 v=v :: l)∧(∀ (x v:Value) (l:List Value) (i:Nat),(x :: l).set (i+1) v=x :: l.set i v) ∧
  (∀ (l:List Bool) (i:Nat) (v:Bool),l.toArray.setIfInBounds i v=(l.set i v).toArray)∧(∀ (x v:Bool) (l:List Bool),(x :: l).set 0 v=v :: l)∧(∀ (x v:Bool) (l:List Bool) (i:Nat),(x :: l).set (i+1) v=x :: l.set i v) :=
 ⟨fun _ _=>rfl,fun _ _ _=>rfl,fun _ _ _=>by simp,fun _ _ _=>rfl,fun _ _ _ _=>rfl,fun _ _ _=>by simp,fun _ _ _=>rfl,fun _ _ _ _=>rfl⟩
theorem c {fuel:Nat} {listed:Array Bool} {a:Act} {w:World} {i:Nat} {o:Oper} {l:List Oper} {rs:List Nat} (ho:ops.toList.drop i=o :: l)
  (h:∀ K':Act→World→Prop,Shut (∀ a w,S w→(S w→wpAnyH P md ops Q S fuel (listed.setIfInBounds i true) a w)→K' a w)→if Region.wanted o (yielded ops a.tmps)=true then Oper.wp P o a w K' Q else K' (a.put o.dst undef) w)
  (hs:AllReadyH P md ops Q S fuel listed a w rs):AllReadyH P md ops Q S fuel listed a w (i :: rs):=AllReadyH.cons (at_ ho) h hs
theorem s (i:Nat) {fuel:Nat} {listed:Array Bool} {a:Act} {w:World} {o:Oper} {l:List Oper} (ho:ops.toList.drop i=o :: l)
  (h:∀ K':Act→World→Prop,Shut (∀ a w,S w→(S w→wpAnyH P md ops Q S fuel (listed.setIfInBounds i true) a w)→K' a w)→if Region.wanted o (yielded ops a.tmps)=true then Oper.wp P o a w K' Q else K' (a.put o.dst undef) w)
  (hr:Region.ready md ops listed=[i]:=by kernel_rfl):wpAnyH P md ops Q S (fuel+1) listed a w :=
 wpAnyH_ready (rs:=[i]) hr (by simp) (AllReadyH.cons (at_ ho) h AllReadyH.nil)
end
end Go.Proofs.YtoffcaldhojjoaaGreatDoor.Tk
end
section
namespace Go.Proofs.YtoffcaldhojjoaaGreatDoor.Plain
open Go Go.RowKit
def zbt (v lo hi:Int):Int:=if v < lo then lo else if v > hi then hi else v
def fits (v:Int):Bool:=decide (-9223372036854775808≤v∧v≤9223372036854775807)
def fitZ (v:Int):Int:=if fits v then v else 0
theorem fits_yes {v:Int} (h1 : -9223372036854775808≤v) (h2:v≤9223372036854775807):fits v=true:=by simp [fits,h1,h2]
theorem fits_no {v:Int} (h:v < -9223372036854775808∨9223372036854775807 < v):fits v=false:=by
 simp [fits];omega
theorem clampZ_lo {v lo hi:Int} (h:v < lo):lo=zbt v lo hi:=by unfold zbt;rw [if_pos h]
theorem clampZ_hi {v lo hi:Int} (h:lo≤v) (h2:hi < v):hi=zbt v lo hi:=by unfold zbt;rw [if_neg (by omega),if_pos h2]
theorem clampZ_in {v lo hi:Int} (h:lo≤v) (h2:v≤hi):v=zbt v lo hi:=by unfold zbt;rw [if_neg (by omega),if_neg (by omega)]
theorem fitZ_yes {v:Int} (h1 : -9223372036854775808≤v) (h2:v≤9223372036854775807):fitZ v=v:=by unfold fitZ;rw [if_pos (fits_yes h1 h2)]
theorem fitZ_no {v:Int} (h:v < -9223372036854775808∨9223372036854775807 < v):fitZ v=0:=by unfold fitZ;rw [if_neg (by simp [fits_no h])]
end Go.Proofs.YtoffcaldhojjoaaGreatDoor.Plain
end
section
namespace Go.Proofs
open Go.Shelf
def Tryz.lays264_ren:Go.Shelf.Ren:=⟨fun | 264=>68 | n=>n,fun | 53=>132 | 46=>146 | n=>n,fun | n=>n⟩
theorem Tryz.lays264:Go.Proofs.Lays.n264 Tryz.prog Tryz.lays264_ren := {
 mixed:=by kernel_rfl
 f264:=Tryz.func68.trans (congrArg some (by kernel_rfl))
 t46:=Tryz.underlying146
 a46:=Tryz.isAgg146
 z46:=Tryz.sizeOf146
 v46:=Tryz.zeroValue146
 t53:=Tryz.underlying132
 a53:=Tryz.isAgg132
 z53:=Tryz.sizeOf132
 v53:=Tryz.zeroValue132 }
open Go.RowKit Go.Lib in
theorem Tryz.bits_Mul64 (x y:Nat) (hx:x < 18446744073709551616) (hy:y < 18446744073709551616) (w:World) :
  Calls Tryz.prog 68 #[.int .u64 x,.int .u64 y] w fun e w'=>e=.returned (.tuple #[.int .u64 ((x * y / 18446744073709551616:Nat):Int),.int .u64 ((x * y % 18446744073709551616:Nat):Int)])∧w'=w:=Any.bits_Mul64 Tryz.lays264 x y hx hy w
end Go.Proofs
end
section
namespace Go.Proofs.YtoffcaldhojjoaaGreatDoor.CSat
open Go.ChangeShapes Go.WideShapes Go.ChangeAt Go.RowKit
open Plain
set_option linter.unusedVariables false
theorem zbr {k:IntKind} {a b:Int} (h:a=b):Ending.returned (.int k a)=.returned (.int k b):=by rw [h]
theorem clamp (v lo hi:Int) (hl1 : -128≤lo) (hl2:lo≤127) (hh1 : -128≤hi) (hh2:hi≤127) (w:World) :
  Calls Tryz.prog 102 #[.int .i64 v,.int .i8 lo,.int .i8 hi] w fun e w'=>e=.returned (.int .i8 (zbt v lo hi))∧w=w':=by
 by_cases h1:v < lo
 ·go_enter Tryz.func102,Tryz.ntmps102
  go_wp2
  go_ret
  exact⟨zbr (by exact clampZ_lo (by omega)),rfl⟩
 ·by_cases h2:v > hi
  ·go_enter Tryz.func102,Tryz.ntmps102
   go_wp2
   go_ret
   exact⟨zbr (by exact clampZ_hi (by omega) (by omega)),rfl⟩
  ·go_enter Tryz.func102,Tryz.ntmps102
   go_wp2
   go_ret
   exact⟨zbr (by exact clampZ_in (by omega) (by omega)),rfl⟩
theorem mul_bd (a b:Int) (ha1 : -2147483648≤a) (ha2:a≤2147483647) (hb1 : -2147483648≤b) (hb2:b≤2147483647) : -4611686018427387904≤a * b∧a * b≤4611686018427387904:=by
 have h:(a * b).natAbs≤2147483648 * 2147483648:=by
  rw [Int.natAbs_mul];exact Nat.mul_le_mul (by omega) (by omega)
 omega
theorem size (a:Int) (ha1 : -9223372036854775808≤a) (ha2:a≤9223372036854775807) (w:World) :
  Calls Tryz.prog 69 #[.int .i64 a] w fun e w'=>e=.returned (.int .u64 (a.natAbs:Int))∧w=w':=by
 by_cases h:a < 0
 ·have hx:IntKind.u64.wrap a=a+18446744073709551616:=by rw [IntKind.wrap_u64];omega
  go_enter Tryz.func69,Tryz.ntmps69
  go_wp2
  go_ret
  exact⟨zbr (by rw [IntKind.wrap_u64];omega),rfl⟩
 ·go_enter Tryz.func69,Tryz.ntmps69
  go_wp2
  go_ret
  exact⟨zbr (by omega),rfl⟩
theorem zbk (x y P:Nat) (hx:x < 18446744073709551616) (hy:y < 18446744073709551616) (hP:P=x * y) (h:P < 18446744073709551616) (w:World) :
  Calls Tryz.prog 68 #[.int .u64 x,.int .u64 y] w fun e w'=>e=.returned (.tuple #[.int .u64 0,.int .u64 (P:Int)])∧w=w':=by
 refine (Tryz.bits_Mul64 x y hx hy w).mono fun e w' he=>?_
 rw [← hP,Nat.div_eq_of_lt h,Nat.mod_eq_of_lt h] at he
 exact⟨he.1,he.2.symm⟩
def BigHigh (w:World) (e:Ending) (w':World):Prop:=∃ h l:Int,1≤h∧(h != 0)=true∧e=.returned (.tuple #[.int .u64 h,.int .u64 l])∧w=w'
theorem mul64_big (x y:Nat) (hx:x < 18446744073709551616) (hy:y < 18446744073709551616) (h:18446744073709551616≤x * y) (w:World) :
  Calls Tryz.prog 68 #[.int .u64 x,.int .u64 y] w (BigHigh w):=by
 refine (Tryz.bits_Mul64 x y hx hy w).mono fun e w' he=>?_
 have h1:1≤x * y / 18446744073709551616:=(Nat.le_div_iff_mul_le (by omega)).2 (by omega)
 generalize x * y / 18446744073709551616=q at h1 he
 exact⟨q,_,by omega,by rw [bne_iff_ne];omega,he.1,he.2.symm⟩
theorem abs_mul (a b:Int):(a * b).natAbs=a.natAbs * b.natAbs:=Int.natAbs_mul a b
theorem neg_back (P:Nat) (h:P≤9223372036854775808):Ending.returned (.tuple #[.int .i64 (wrap64 (IntKind.u64.wrap (-(P:Int)))),.bool true])=Ending.returned (.tuple #[.int .i64 (-(P:Int)),.bool true]):=by
 have:wrap64 (IntKind.u64.wrap (-(P:Int))) = -(P:Int):=by rw [IntKind.wrap_u64];unfold wrap64;omega
 rw [this]
theorem times (a b:Int) (ha1 : -9223372036854775808≤a) (ha2:a≤9223372036854775807) (hb1 : -9223372036854775808≤b) (hb2:b≤9223372036854775807) (w:World) :
  Calls Tryz.prog 55 #[.int .i64 a,.int .i64 b] w fun e w'=>e=.returned (.tuple #[.int .i64 (fitZ (a * b)),.bool (fits (a * b))])∧w=w':=by
 have hm:=abs_mul a b
 have hA:a.natAbs < 18446744073709551616:=by omega
 have hB:b.natAbs < 18446744073709551616:=by omega
 by_cases hbig:18446744073709551616≤a.natAbs * b.natAbs
 ·have h2:a * b < -9223372036854775808∨9223372036854775807 < a * b:=by omega
  rw [fitZ_no h2,fits_no h2]
  have H:=Lib.hid hbig
  clear hm h2 hbig
  go_enter Tryz.func55,Tryz.ntmps55
  go_wp2_with (first | (go_at_call 69;refine (size _ (by omega) (by omega) _).mono ?_;rintro e w' ⟨rfl,rfl⟩) | (go_at_call 68;refine (mul64_big _ _ hA hB H.out _).mono ?_;rintro e w' ⟨h,l,h1,h2,rfl,rfl⟩))
  go_ret2
  exact⟨rfl,rfl⟩
 ·obtain⟨P,hP⟩:∃ P,P=a.natAbs * b.natAbs:=⟨_,rfl⟩
  have hsm:P < 18446744073709551616:=by omega
  have key:(((a < 0)=(b < 0))→a * b=P)∧(((a < 0)≠(b < 0))→a * b = - (P:Int)):=by
   have hs:(a * b=P)∨(a * b = -(P:Int)):=by omega
   constructor
   ·intro hsg
    by_cases ha:a < 0
    ·have hb:b < 0:=hsg ▸ ha
     have:=Int.mul_pos_of_neg_of_neg ha hb
     omega
    ·have hb:¬ b < 0:=hsg ▸ ha
     have:=Int.mul_nonneg (Int.not_lt.1 ha) (Int.not_lt.1 hb)
     omega
   ·intro hsg
    by_cases ha:a < 0
    ·have hb:¬ b < 0:=fun h=>hsg (by simp [ha,h])
     have:=Int.mul_nonpos_of_nonpos_of_nonneg (Int.le_of_lt ha) (Int.not_lt.1 hb)
     omega
    ·have hb:b < 0:=by
      by_cases hb:b < 0
      ·exact hb
      ·exact absurd (by simp [ha,hb]) hsg
     have:=Int.mul_nonpos_of_nonneg_of_nonpos (Int.not_lt.1 ha) (Int.le_of_lt hb)
     omega
  obtain⟨k1,k2⟩:=key
  clear hm hbig
  have H:=Lib.hid hP
  clear hP
  by_cases ha:a < 0 <;> by_cases hb:b < 0
  ·rw [k1 (by simp [ha,hb])];clear k1 k2
   have da:decide (a < 0)=true:=by simp;omega
   have db:decide (b < 0)=true:=by simp;omega
   by_cases hq:P≤9223372036854775807
   ·rw [fitZ_yes (by omega) (by omega),fits_yes (by omega) (by omega)]
    go_enter Tryz.func55,Tryz.ntmps55
    go_wp2_with (first | (go_at_call 69;refine (size _ (by omega) (by omega) _).mono ?_;rintro e w' ⟨rfl,rfl⟩) | (go_at_call 68;refine (zbk _ _ P hA hB H.out (by omega) _).mono ?_;rintro e w' ⟨rfl,rfl⟩))
    go_ret2
    exact⟨rfl,rfl⟩
   ·rw [fitZ_no (by omega),fits_no (by omega)]
    go_enter Tryz.func55,Tryz.ntmps55
    go_wp2_with (first | (go_at_call 69;refine (size _ (by omega) (by omega) _).mono ?_;rintro e w' ⟨rfl,rfl⟩) | (go_at_call 68;refine (zbk _ _ P hA hB H.out (by omega) _).mono ?_;rintro e w' ⟨rfl,rfl⟩))
    go_ret2
    exact⟨rfl,rfl⟩
  ·rw [k2 (by simp [ha,hb])];clear k1 k2
   have da:decide (a < 0)=true:=by simp;omega
   have db:decide (b < 0)=false:=by simp;omega
   by_cases hq:P≤9223372036854775808
   ·rw [fitZ_yes (by omega) (by omega),fits_yes (by omega) (by omega)]
    go_enter Tryz.func55,Tryz.ntmps55
    go_wp2_with (first | (go_at_call 69;refine (size _ (by omega) (by omega) _).mono ?_;rintro e w' ⟨rfl,rfl⟩) | (go_at_call 68;refine (zbk _ _ P hA hB H.out (by omega) _).mono ?_;rintro e w' ⟨rfl,rfl⟩))
    go_ret2
    exact⟨neg_back P (by omega),rfl⟩
   ·rw [fitZ_no (by omega),fits_no (by omega)]
    go_enter Tryz.func55,Tryz.ntmps55
    go_wp2_with (first | (go_at_call 69;refine (size _ (by omega) (by omega) _).mono ?_;rintro e w' ⟨rfl,rfl⟩) | (go_at_call 68;refine (zbk _ _ P hA hB H.out (by omega) _).mono ?_;rintro e w' ⟨rfl,rfl⟩))
    go_ret2
    exact⟨rfl,rfl⟩
  ·rw [k2 (by simp [ha,hb])];clear k1 k2
   have da:decide (a < 0)=false:=by simp;omega
   have db:decide (b < 0)=true:=by simp;omega
   by_cases hq:P≤9223372036854775808
   ·rw [fitZ_yes (by omega) (by omega),fits_yes (by omega) (by omega)]
    go_enter Tryz.func55,Tryz.ntmps55
    go_wp2_with (first | (go_at_call 69;refine (size _ (by omega) (by omega) _).mono ?_;rintro e w' ⟨rfl,rfl⟩) | (go_at_call 68;refine (zbk _ _ P hA hB H.out (by omega) _).mono ?_;rintro e w' ⟨rfl,rfl⟩))
    go_ret2
    exact⟨neg_back P (by omega),rfl⟩
   ·rw [fitZ_no (by omega),fits_no (by omega)]
    go_enter Tryz.func55,Tryz.ntmps55
    go_wp2_with (first | (go_at_call 69;refine (size _ (by omega) (by omega) _).mono ?_;rintro e w' ⟨rfl,rfl⟩) | (go_at_call 68;refine (zbk _ _ P hA hB H.out (by omega) _).mono ?_;rintro e w' ⟨rfl,rfl⟩))
    go_ret2
    exact⟨rfl,rfl⟩
  ·rw [k1 (by simp [ha,hb])];clear k1 k2
   have da:decide (a < 0)=false:=by simp;omega
   have db:decide (b < 0)=false:=by simp;omega
   by_cases hq:P≤9223372036854775807
   ·rw [fitZ_yes (by omega) (by omega),fits_yes (by omega) (by omega)]
    go_enter Tryz.func55,Tryz.ntmps55
    go_wp2_with (first | (go_at_call 69;refine (size _ (by omega) (by omega) _).mono ?_;rintro e w' ⟨rfl,rfl⟩) | (go_at_call 68;refine (zbk _ _ P hA hB H.out (by omega) _).mono ?_;rintro e w' ⟨rfl,rfl⟩))
    go_ret2
    exact⟨rfl,rfl⟩
   ·rw [fitZ_no (by omega),fits_no (by omega)]
    go_enter Tryz.func55,Tryz.ntmps55
    go_wp2_with (first | (go_at_call 69;refine (size _ (by omega) (by omega) _).mono ?_;rintro e w' ⟨rfl,rfl⟩) | (go_at_call 68;refine (zbk _ _ P hA hB H.out (by omega) _).mono ?_;rintro e w' ⟨rfl,rfl⟩))
    go_ret2
    exact⟨rfl,rfl⟩
end Go.Proofs.YtoffcaldhojjoaaGreatDoor.CSat
end
