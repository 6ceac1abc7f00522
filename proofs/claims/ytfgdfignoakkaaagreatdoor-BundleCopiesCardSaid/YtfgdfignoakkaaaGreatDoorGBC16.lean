/- -/
import Derived.Test.YtfgdfignoakkaaaGreatDoorGBC7
import Derived.Test.YtfgdfignoakkaaaGreatDoorGBC15
open Nat (le_refl lt_of_succ_lt lt_succ_self)
set_option linter.unusedVariables false
set_option linter.unusedSimpArgs false
set_option maxRecDepth 100000
set_option maxHeartbeats 16000000
namespace Go.Proofs.YtfgdfignoakkaaaGreatDoor
namespace CConv
end CConv
namespace CFix
end CFix
namespace CSat
end CSat
namespace CShape
end CShape
namespace CTensor
end CTensor
namespace Plain
end Plain
open Go Go.ChangeShapes Go.WideShapes Go.ChangeAt Go.RowKit Go.Deep
section
namespace CKind
open Plain CSat CFix CShape CTensor CConv
def NamesIn (w:World):Prop:=∀ n:Nat,n < 10→w.cell? ⟨1,n,none⟩=some (.string (kname n))
end CKind
end
end Go.Proofs.YtfgdfignoakkaaaGreatDoor
