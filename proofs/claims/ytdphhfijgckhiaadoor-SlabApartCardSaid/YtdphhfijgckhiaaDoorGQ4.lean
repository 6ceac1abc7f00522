/- -/
import Derived.Shelf.Bits.Mul64
import Derived.Shelf.SlSortCmp.WholeK
import Derived.Shelf.SlicesG.Cmp
import Derived.Test.YtdphhfijgckhiaaDoorProg
section
namespace Go.Proofs
open Go.Shelf
def Tryd.lays264_ren:Go.Shelf.Ren:=⟨fun | 264=>63 | n=>n,fun | 53=>104 | 46=>110 | n=>n,fun | n=>n⟩
theorem Tryd.lays264:Go.Proofs.Lays.n264 Tryd.prog Tryd.lays264_ren := {
 mixed:=by kernel_rfl
 f264:=Tryd.func63.trans (congrArg some (by kernel_rfl))
 t46:=Tryd.underlying110
 a46:=Tryd.isAgg110
 z46:=Tryd.sizeOf110
 v46:=Tryd.zeroValue110
 t53:=Tryd.underlying104
 a53:=Tryd.isAgg104
 z53:=Tryd.sizeOf104
 v53:=Tryd.zeroValue104 }
open Go.RowKit Go.Lib in
theorem Tryd.bits_Mul64 (x y:Nat) (hx:x < 18446744073709551616) (hy:y < 18446744073709551616) (w:World) :
  Calls Tryd.prog 63 #[.int .u64 x,.int .u64 y] w fun e w'=>e=.returned (.tuple #[.int .u64 ((x * y / 18446744073709551616:Nat):Int),.int .u64 ((x * y % 18446744073709551616:Nat):Int)])∧w'=w:=Any.bits_Mul64 Tryd.lays264 x y hx hy w
def Tryd.laysSlC25_f49_ren:Go.Shelf.Ren:=⟨fun | 5=>49 | 7=>67 | n=>n,fun | 22=>3 | 3=>3 | 4=>4 | n=>n,fun | n=>n⟩
theorem Tryd.laysSlC25_f49:Go.Proofs.SlLaysC2.n5 Tryd.prog Tryd.laysSlC25_f49_ren := {
 mixed:=by kernel_rfl
 f5:=⟨Tryd.f49.name,by decide,Tryd.func49.trans (congrArg some (by kernel_rfl))⟩
 f7:=⟨Tryd.f67.name,by decide,Tryd.func67.trans (congrArg some (by kernel_rfl))⟩
 t3:=Tryd.underlying3
 a3:=Tryd.isAgg3
 z3:=Tryd.sizeOf3
 v3:=Tryd.zeroValue3
 t4:=Tryd.underlying4
 a4:=Tryd.isAgg4
 z4:=Tryd.sizeOf4
 v4:=Tryd.zeroValue4
 t22:=Tryd.underlying3
 a22:=Tryd.isAgg3
 z22:=Tryd.sizeOf3
 v22:=Tryd.zeroValue3 }
open Go.Lib in
theorem Tryd.cmp_Compare_int (x y:Int) (w:World) :
  Calls Tryd.prog 49 #[.int .i64 x,.int .i64 y] w fun e w'=>e=.returned (.int .i64 (Lib.compareInt x y))∧w'=w:=AnyG.cmp_Compare_int Tryd.laysSlC25_f49 x y w
def Tryd.sortIv_ren:Go.Shelf.Ren:=⟨fun | 6=>47 | 15=>66 | 14=>65 | 28=>81 | 29=>82 | 20=>73 | 21=>74 | 22=>75 | 23=>76 | 24=>77 | 25=>78 | 26=>79 | 27=>80 | 46=>83 | 47=>84 | 48=>85 | 49=>86 | 50=>87 | 57=>88 | n=>n,fun | 22=>72 | 24=>88 | 25=>93 | 3=>3 | 39=>110 | 0=>0 | 53=>123 | 55=>104 | 4=>4 | 46=>117 | 45=>116 | 50=>68 | 5=>5 | 9=>9 | 66=>126 | 70=>130 | 76=>132 | 77=>95 | n=>n,fun | n=>n⟩
theorem Tryd.sortIv:Go.Proofs.SlLaysF0.n6 Tryd.prog Tryd.sortIv_ren := {
 mixed:=by kernel_rfl
 f6:=⟨Tryd.f47.name,by decide,Tryd.func47.trans (congrArg some (by kernel_rfl))⟩
 f14:=⟨Tryd.f65.name,by decide,Tryd.func65.trans (congrArg some (by kernel_rfl))⟩
 f15:=Tryd.func66.trans (congrArg some (by kernel_rfl))
 f20:=⟨Tryd.f73.name,by decide,Tryd.func73.trans (congrArg some (by kernel_rfl))⟩
 f21:=⟨Tryd.f74.name,by decide,Tryd.func74.trans (congrArg some (by kernel_rfl))⟩
 f22:=⟨Tryd.f75.name,by decide,Tryd.func75.trans (congrArg some (by kernel_rfl))⟩
 f23:=⟨Tryd.f76.name,by decide,Tryd.func76.trans (congrArg some (by kernel_rfl))⟩
 f24:=⟨Tryd.f77.name,by decide,Tryd.func77.trans (congrArg some (by kernel_rfl))⟩
 f25:=⟨Tryd.f78.name,by decide,Tryd.func78.trans (congrArg some (by kernel_rfl))⟩
 f26:=⟨Tryd.f79.name,by decide,Tryd.func79.trans (congrArg some (by kernel_rfl))⟩
 f27:=⟨Tryd.f80.name,by decide,Tryd.func80.trans (congrArg some (by kernel_rfl))⟩
 f28:=Tryd.func81.trans (congrArg some (by kernel_rfl))
 f29:=Tryd.func82.trans (congrArg some (by kernel_rfl))
 f46:=⟨Tryd.f83.name,by decide,Tryd.func83.trans (congrArg some (by kernel_rfl))⟩
 f47:=Tryd.func84.trans (congrArg some (by kernel_rfl))
 f48:=Tryd.func85.trans (congrArg some (by kernel_rfl))
 f49:=⟨Tryd.f86.name,by decide,Tryd.func86.trans (congrArg some (by kernel_rfl))⟩
 f50:=⟨Tryd.f87.name,by decide,Tryd.func87.trans (congrArg some (by kernel_rfl))⟩
 f57:=⟨Tryd.f88.name,by decide,Tryd.func88.trans (congrArg some (by kernel_rfl))⟩
 t0:=Tryd.underlying0
 a0:=Tryd.isAgg0
 z0:=Tryd.sizeOf0
 v0:=Tryd.zeroValue0
 t3:=Tryd.underlying3
 a3:=Tryd.isAgg3
 z3:=Tryd.sizeOf3
 v3:=Tryd.zeroValue3
 t4:=Tryd.underlying4
 a4:=Tryd.isAgg4
 z4:=Tryd.sizeOf4
 v4:=Tryd.zeroValue4
 t5:=Tryd.underlying5
 a5:=Tryd.isAgg5
 z5:=Tryd.sizeOf5
 v5:=Tryd.zeroValue5
 t9:=Tryd.underlying9
 a9:=Tryd.isAgg9
 z9:=Tryd.sizeOf9
 v9:=Tryd.zeroValue9
 t22:=Tryd.underlying72
 a22:=Tryd.isAgg72
 z22:=Tryd.sizeOf72
 v22:=Tryd.zeroValue72
 t25:=Tryd.underlying93
 a25:=Tryd.isAgg93
 z25:=Tryd.sizeOf93
 v25:=Tryd.zeroValue93
 t39:=Tryd.underlying110
 a39:=Tryd.isAgg110
 z39:=Tryd.sizeOf110
 v39:=Tryd.zeroValue110
 t45:=Tryd.underlying116
 a45:=Tryd.isAgg116
 z45:=Tryd.sizeOf116
 v45:=Tryd.zeroValue116
 t46:=Tryd.underlying117
 a46:=Tryd.isAgg117
 z46:=Tryd.sizeOf117
 v46:=Tryd.zeroValue117
 t50:=Tryd.underlying68
 a50:=Tryd.isAgg68
 z50:=Tryd.sizeOf68
 v50:=Tryd.zeroValue68
 t53:=Tryd.underlying123
 a53:=Tryd.isAgg123
 z53:=Tryd.sizeOf123
 v53:=Tryd.zeroValue123
 t55:=Tryd.underlying104
 a55:=Tryd.isAgg104
 z55:=Tryd.sizeOf104
 v55:=Tryd.zeroValue104
 t66:=Tryd.underlying126
 a66:=Tryd.isAgg126
 z66:=Tryd.sizeOf126
 v66:=Tryd.zeroValue126
 t70:=Tryd.underlying130
 a70:=Tryd.isAgg130
 z70:=Tryd.sizeOf130
 v70:=Tryd.zeroValue130
 t76:=Tryd.underlying132
 a76:=Tryd.isAgg132
 z76:=Tryd.sizeOf132
 v76:=Tryd.zeroValue132
 t77:=Tryd.underlying95
 a77:=Tryd.isAgg95
 z77:=Tryd.sizeOf95
 v77:=Tryd.zeroValue95 }
end Go.Proofs
end
