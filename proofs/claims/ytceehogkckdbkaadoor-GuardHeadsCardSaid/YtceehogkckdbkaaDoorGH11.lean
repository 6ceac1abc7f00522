/- -/
import Derived.Test.YtceehogkckdbkaaDoorGH9
open Nat (le_refl lt_of_succ_lt lt_succ_self)
set_option linter.unusedVariables false
set_option linter.unusedSimpArgs false
set_option maxRecDepth 100000
set_option maxHeartbeats 16000000
namespace Go.Proofs.YtceehogkckdbkaaDoor
namespace CConv
end CConv
namespace CFix
end CFix
namespace CSat
end CSat
namespace CShape
end CShape
namespace CTensor
end CTensor
open Go Go.ChangeShapes Go.WideShapes Go.ChangeAt Go.RowKit Go.Deep
section
namespace CKind
open Plain CSat CFix CShape CTensor CConv
def kname (k:Int):ByteArray :=
 if k=1 then ⟨#[99,111,110,118]⟩ else if k=2 then ⟨#[100,101,112,116,104]⟩ else if k=3 then ⟨#[100,101,110,115,101]⟩ else if k=4 then ⟨#[109,97,120,112,111,111,108]⟩ else if k=5 then ⟨#[97,118,103,112,111,111,108]⟩ else if k=6 then ⟨#[106,111,105,110]⟩ else if k=7 then ⟨#[97,99,116]⟩ else if k=8 then ⟨#[112,97,100]⟩ else if k=9 then ⟨#[102,108,97,116]⟩ else ⟨#[]⟩
theorem kname_no {k:Int} (h:k < 1∨9 < k):kname k=⟨#[]⟩:=by
 unfold kname
 simp only [show ¬ k=1 by omega,show ¬ k=2 by omega,show ¬ k=3 by omega,show ¬ k=4 by omega,show ¬ k=5 by omega,show ¬ k=6 by omega,show ¬ k=7 by omega,show ¬ k=8 by omega,show ¬ k=9 by omega,if_false]
end CKind
end
section
namespace CKind
open Plain CSat CShape CTensor CConv
theorem zaz (a b c x y z:Int) (w:World):(Op.equalIn 10000 27 (.agg #[.int .i32 a,.int .i64 b,.int .i8 c]) (.agg #[.int .i32 x,.int .i64 y,.int .i8 z])).run Tryd.prog w=.ok (a == x && (b == y && c == z)) w:=by
 have u1:=Tryd.underlying21
 have a1:=Tryd.isAgg21
 have z1:=Tryd.sizeOf21
 have u2:=Tryd.underlying23
 have a2:=Tryd.isAgg23
 have z2:=Tryd.sizeOf23
 have u3:=Tryd.underlying3
 have a3:=Tryd.isAgg3
 have z3:=Tryd.sizeOf3
 have hS:Tryd.prog.underlying 27=some (.struct (Tryd.prog.fieldsOf 27)):=by kernel_rfl
 rw [show (10000:Nat)=9999+1 from rfl,run_equalIn_agg w 9999 27 _ _ hS Tryd.stoodInHeld27]
 simp only [Program.fieldsOf,Tryd.underlying27]
 go_simp
 by_cases h1:a=x <;> by_cases h2:b=y <;> by_cases h3:c=z <;> simp [h1,h2,h3]
end CKind
end
end Go.Proofs.YtceehogkckdbkaaDoor
