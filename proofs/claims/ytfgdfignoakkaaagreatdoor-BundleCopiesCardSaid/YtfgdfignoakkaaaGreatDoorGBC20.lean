/- -/
import Derived.Test.YtfgdfignoakkaaaGreatDoorGBC9
import Derived.Test.YtfgdfignoakkaaaGreatDoorGBC11
import Derived.Test.YtfgdfignoakkaaaGreatDoorGBC16
open Nat (le_refl lt_of_succ_lt lt_succ_self)
set_option linter.unusedVariables false
set_option linter.unusedSimpArgs false
set_option maxRecDepth 100000
set_option maxHeartbeats 16000000
namespace Go.Proofs.YtfgdfignoakkaaaGreatDoor
namespace CConv
end CConv
namespace CFix
end CFix
namespace CKind
end CKind
namespace CSat
end CSat
namespace CShape
end CShape
namespace CTensor
end CTensor
namespace Plain
end Plain
open Go Go.ChangeShapes Go.WideShapes Go.ChangeAt Go.RowKit Go.Deep
section
namespace CGraph
open Plain CSat CFix CShape CTensor CConv CKind
theorem nd_load_mid {ops:Array Oper} {rest:List Oper} {op:Oper} {a:Act} {w:World} {Q:Exit→Act→World→Prop} (hgd:op.guard=none) (x:Operand) (ho:op.op=.load 54 x)
  (b o:Nat) (u:Nd) (hx:a.eval x=.pointer (some ⟨b,o,none⟩)) (hb:w.rangeAt b o u.val.toList)
  (h:wpList Tryz.prog ops Q rest (a.put op.dst (.agg u.val)) w):wpList Tryz.prog ops Q (op :: rest) a w :=
 wpList_load_mid hgd 54 x ho b o hx u.val.toList _ hb Tryz.underlying54 rfl (by kernel_rfl) h
end CGraph
end
end Go.Proofs.YtfgdfignoakkaaaGreatDoor
