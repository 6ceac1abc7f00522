/- -/
import Derived.Lib.Hide
import Derived.Shelf.Bits.Mul64
import Derived.Test.YtjhlkmnpfibgaaaDoorProg
section
namespace Go.Proofs.YtjhlkmnpfibgaaaDoor.Plain
open Go Go.RowKit
def fits (v:Int):Bool:=decide (-9223372036854775808≤v∧v≤9223372036854775807)
def fitZ (v:Int):Int:=if fits v then v else 0
theorem fits_yes {v:Int} (h1 : -9223372036854775808≤v) (h2:v≤9223372036854775807):fits v=true:=by simp [fits,h1,h2]
theorem fits_no {v:Int} (h:v < -9223372036854775808∨9223372036854775807 < v):fits v=false:=by
 simp [fits];omega
theorem fitZ_yes {v:Int} (h1 : -9223372036854775808≤v) (h2:v≤9223372036854775807):fitZ v=v:=by unfold fitZ;rw [if_pos (fits_yes h1 h2)]
theorem fitZ_no {v:Int} (h:v < -9223372036854775808∨9223372036854775807 < v):fitZ v=0:=by unfold fitZ;rw [if_neg (by simp [fits_no h])]
end Go.Proofs.YtjhlkmnpfibgaaaDoor.Plain
end
section
namespace Go.Proofs
open Go.Shelf
def Tryd.lays264_ren:Go.Shelf.Ren:=⟨fun | 264=>61 | n=>n,fun | 53=>114 | 46=>120 | n=>n,fun | n=>n⟩
theorem Tryd.lays264:Go.Proofs.Lays.n264 Tryd.prog Tryd.lays264_ren := {
 mixed:=by kernel_rfl
 f264:=Tryd.func61.trans (congrArg some (by kernel_rfl))
 t46:=Tryd.underlying120
 a46:=Tryd.isAgg120
 z46:=Tryd.sizeOf120
 v46:=Tryd.zeroValue120
 t53:=Tryd.underlying114
 a53:=Tryd.isAgg114
 z53:=Tryd.sizeOf114
 v53:=Tryd.zeroValue114 }
open Go.RowKit Go.Lib in
theorem Tryd.bits_Mul64 (x y:Nat) (hx:x < 18446744073709551616) (hy:y < 18446744073709551616) (w:World) :
  Calls Tryd.prog 61 #[.int .u64 x,.int .u64 y] w fun e w'=>e=.returned (.tuple #[.int .u64 ((x * y / 18446744073709551616:Nat):Int),.int .u64 ((x * y % 18446744073709551616:Nat):Int)])∧w'=w:=Any.bits_Mul64 Tryd.lays264 x y hx hy w
end Go.Proofs
end
