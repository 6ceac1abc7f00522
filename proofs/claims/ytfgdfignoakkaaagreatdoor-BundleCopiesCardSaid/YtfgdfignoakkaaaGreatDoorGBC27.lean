/- -/
import Derived.Lib.SlBytesConst
import Derived.Test.YtfgdfignoakkaaaGreatDoorGBC26
open Nat (le_refl lt_of_succ_lt lt_succ_self)
set_option linter.unusedVariables false
set_option linter.unusedSimpArgs false
set_option maxRecDepth 100000
set_option maxHeartbeats 16000000
namespace Go.Proofs.YtfgdfignoakkaaaGreatDoor
open Go Go.ChangeShapes Go.WideShapes Go.ChangeAt Go.RowKit
section
namespace CCrc
open CrcNum
theorem of_n (A:Option Addr) (zs:List Int) (n c:Nat) (hn:zs.length=n) (hl:n≤9223372036854775807) (hz:U8s zs) (w:World) (hT:zah w) {B:Nat} (hr:Kit.Rd w B A (zs.map (.int .u8))) :
  Calls Tryz.prog 32 #[.slice A n c] w fun e w'=>e=.returned (.int .u32 (toI (crcOf zs)))∧w=w':=by
 subst hn;exact of A zs c hl hz w hT hr
end CCrc
end
end Go.Proofs.YtfgdfignoakkaaaGreatDoor
