/- -/
import Derived.Test.YtjhlkmnpfibgaaaDoorGM1
import Derived.Test.YtjhlkmnpfibgaaaDoorGM5
open Nat (le_refl lt_of_succ_lt lt_succ_self)
set_option linter.unusedVariables false
set_option linter.unusedSimpArgs false
set_option maxRecDepth 100000
set_option maxHeartbeats 16000000
namespace Go.Proofs.YtjhlkmnpfibgaaaDoor
namespace CSat
end CSat
open Go Go.ChangeShapes Go.WideShapes Go.ChangeAt Go.RowKit
section
namespace CFix
open Plain CSat
theorem right_yes (s:Int) (h1:0≤s) (h2:s≤62) (w:World) :
  Calls Tryd.prog 66 #[.int .i64 s] w fun e w'=>e=.returned (.bool true)∧w=w':=by
 go_enter Tryd.func66,Tryd.ntmps66
 go_wp2
 go_ret
 exact⟨rfl,rfl⟩
theorem right_no (s:Int) (h:s < 0∨62 < s) (w:World) :
  Calls Tryd.prog 66 #[.int .i64 s] w fun e w'=>e=.returned (.bool false)∧w=w':=by
 rcases h with h | h
 ·go_enter Tryd.func66,Tryd.ntmps66
  go_wp2
  go_ret
  exact⟨rfl,rfl⟩
 ·by_cases h0:0≤s
  ·have hd:decide (s≤62)=false:=by simp;omega
   go_enter Tryd.func66,Tryd.ntmps66
   go_wp2
   go_ret
   exact⟨rfl,rfl⟩
  ·go_enter Tryd.func66,Tryd.ntmps66
   go_wp2
   go_ret
   exact⟨rfl,rfl⟩
def rightB (m s:Int):Bool:=decide (0 < m∧0≤s∧s≤62)
theorem isRight_yes (m s z:Int) (h:rightB m s=true) (w:World) :
  Calls Tryd.prog 60 #[.agg #[.int .i32 m,.int .i64 s,.int .i8 z]] w fun e w'=>e=.returned (.bool true)∧Below w.heap.size w w':=by
 obtain⟨h1,h2,h3⟩:0 < m∧0≤s∧s≤62:=by simpa [rightB] using h
 clear h
 go_enter Tryd.func60,Tryd.ntmps60
 go_wp2_with (go_at_call 66;refine (right_yes _ (by omega) (by omega) _).mono ?_;rintro e w' ⟨rfl,rfl⟩)
 go_ret
 exact⟨rfl,(Below.refl _ _).alloc (le_refl _) _⟩
theorem isRight_no (m s z:Int) (h:rightB m s=false) (w:World) :
  Calls Tryd.prog 60 #[.agg #[.int .i32 m,.int .i64 s,.int .i8 z]] w fun e w'=>e=.returned (.bool false)∧Below w.heap.size w w':=by
 have h0:¬ (0 < m∧0≤s∧s≤62):=by simpa [rightB] using h
 clear h
 by_cases h1:0 < m
 ·have h2:s < 0∨62 < s:=by omega
  clear h0
  go_enter Tryd.func60,Tryd.ntmps60
  go_wp2_with (go_at_call 66;refine (right_no _ h2 _).mono ?_;rintro e w' ⟨rfl,rfl⟩)
  go_ret
  exact⟨rfl,(Below.refl _ _).alloc (le_refl _) _⟩
 ·have hd:decide (0 < m)=false:=by simpa using h1
  clear h0
  go_enter Tryd.func60,Tryd.ntmps60
  go_wp2_with fail
  go_ret
  exact⟨rfl,(Below.refl _ _).alloc (le_refl _) _⟩
end CFix
end
end Go.Proofs.YtjhlkmnpfibgaaaDoor
