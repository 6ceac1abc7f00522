/- -/
import Derived.Test.YtfgdfignoakkaaaGreatDoorRows
import Derived.Shelf.Bits.Mul64
import Derived.Deep.RegionHeld3
import Derived.Handy
import Derived.Lib.SliceRun
import Derived.Deep.CutRange
import Derived.Test.YtfgdfignoakkaaaGreatDoorGBC1
import Derived.Test.YtfgdfignoakkaaaGreatDoorGBC3
open Nat (le_refl lt_of_succ_lt lt_succ_self)
set_option linter.unusedVariables false
set_option linter.unusedSimpArgs false
set_option maxRecDepth 100000
set_option maxHeartbeats 16000000
namespace Go.Proofs.YtfgdfignoakkaaaGreatDoor
namespace CConv
end CConv
namespace CSat
end CSat
namespace CShape
end CShape
namespace CTensor
end CTensor
namespace Plain
end Plain
open Go Go.ChangeShapes Go.WideShapes Go.ChangeAt Go.RowKit Go.Deep
section
namespace CKind
open Plain CSat CShape CTensor CConv
structure Nd where
 (kd na nb K S P O Z Y:Int)
 (WA:Option Addr)
 (nW cW:Nat)
 (BA:Option Addr)
 (nB cB:Nat)
 (m1 s1 z1 m2 s2 z2 lo hi:Int)
def Nd.val (x:Nd):Array Value:=#[.int .i64 x.kd,.int .i64 x.na,.int .i64 x.nb,.int .i64 x.K,.int .i64 x.S,.int .i64 x.P,.int .i64 x.O,.int .i8 x.Z,.int .i8 x.Y,.slice x.WA x.nW x.cW,.slice x.BA x.nB x.cB,.int .i32 x.m1,.int .i64 x.s1,.int .i8 x.z1,.int .i32 x.m2,.int .i64 x.s2,.int .i8 x.z2,.int .i8 x.lo,.int .i8 x.hi]
def NdAt (g:Nat) (x:Nd) (w:World):Prop:=w.rangeAt g 0 x.val.toList
theorem NdAt.at {g:Nat} {x:Nd} {w:World} (h:NdAt g x w) (i:Nat) (v:Value) (hi:x.val.toList[i]?=some v):w.cell? ⟨g,i,none⟩=some v:=by
 have:=h i v hi
 rwa [Nat.zero_add] at this
theorem NdAt.below {g B:Nat} {x:Nd} {w w':World} (h:NdAt g x w) (hB:g < B) (hb:Below B w w'):NdAt g x w':=fun j v hj=>(hb.cell (p:=⟨g,0+j,none⟩) hB).trans (h j v hj)
theorem NdAt.new (x:Nd) (T:TypeId) (w:World):NdAt w.heap.size x (w.alloc (.cells x.val T)):=fun j v hj=>by
 rw [Nat.zero_add,Kit.zae]
 simpa using hj
end CKind
end
end Go.Proofs.YtfgdfignoakkaaaGreatDoor
