/- -/
import Derived.Test.YtfgdfignoakkaaaGreatDoorGBC20
open Go.Lib (hid)
open Nat (le_refl lt_of_succ_lt lt_succ_self)
set_option linter.unusedVariables false
set_option linter.unusedSimpArgs false
set_option maxRecDepth 100000
set_option maxHeartbeats 16000000
namespace Go.Proofs.YtfgdfignoakkaaaGreatDoor
namespace CConv
end CConv
namespace CFix
end CFix
namespace CKind
end CKind
namespace CSat
end CSat
namespace CShape
end CShape
namespace CTensor
end CTensor
namespace Plain
end Plain
open Go Go.ChangeShapes Go.WideShapes Go.ChangeAt Go.RowKit Go.Deep
section
namespace CGraph
open Plain CSat CFix CShape CTensor CConv CKind
def FewPost2 (X:Nat→Nd) (n:Nat) (w:World) (e:Ending) (w':World):Prop:=∃ b:Bool,e=.returned (.bool b)∧(b=true→n≤12∧∀ i,i < n→(X i).nW≤1000∧(X i).nB≤100)∧Below w.heap.size w w'
theorem few2_to (X:Nat→Nd) (n c:Nat) (A:Option Addr) (w:World) (hA:NodesAt w w.heap.size A n X) :
  Calls Tryz.prog 20 #[.slice A n c,.agg #[.int .i64 0,.int .i64 0,.int .i64 0,.slice none 0 0]] w (FewPost2 X n w):=by
 have HA:=hid hA
 have HB0:=hid ((Below.refl w.heap.size w).alloc (le_refl _) (.cells #[.int .i64 0,.int .i64 0,.int .i64 0,.slice none 0 0] 65))
 have q3:(w.alloc (.cells #[.int .i64 0,.int .i64 0,.int .i64 0,.slice none 0 0] 65)).cell? ⟨w.heap.size,3,none⟩=some (.slice none 0 0):=by rw [Kit.zae];rfl
 clear hA
 go_enter Tryz.func20,Tryz.ntmps20
 go_upto_region 1 with fail
 generalize w.alloc (.cells #[.int .i64 0,.int .i64 0,.int .i64 0,.slice none 0 0] 65)=W0 at HB0 q3 ⊢
 by_cases h:n≤12
 ·have h2:¬ (n:Int) > 12:=by omega
  go_wp2_with fail
  go_loop [5] (fun u=>∃ i:Nat,i≤n∧u=.int .i64 i∧Hid (∀ j,j < i→(X j).nW≤1000∧(X j).nB≤100)) (fun u=>n - (intOf u).toNat)
  case atStart=>exact⟨0,Nat.zero_le _,rfl,hid (fun j hj=>by omega)⟩
  case round =>
   obtain⟨i,hi,rfl,HI⟩:=hrel
   by_cases hlt:i < n
   ·obtain⟨ba,oa,rfl,hba,hra⟩:=(HA.out.below HB0.out) i hlt
    have i1:(i:Int) < (n:Int):=by omega
    have ib:(0:Int)≤(i:Int):=by omega
    have c9:=hra 9 (.slice (X i).WA (X i).nW (X i).cW) rfl
    have c10:=hra 10 (.slice (X i).BA (X i).nB (X i).cB) rfl
    clear hra hba
    obtain⟨x,hx⟩:∃ x,X i=x:=⟨_,rfl⟩
    rw [hx] at c9 c10
    have HXX:=hid hx
    clear hx
    by_cases a1:(x.nW:Int) > 1000
    ·go_wp2_with fail
     go_ret
     exact⟨false,rfl,fun h=>(nomatch h),HB0.out⟩
    ·by_cases a2:(x.nB:Int) > 100
     ·go_wp2_with fail
      go_ret
      exact⟨false,rfl,fun h=>(nomatch h),HB0.out⟩
     ·go_wp2_with fail
      go_round
      case rel=>exact⟨i+1,by omega,by go_num,hid (fun j hj=>by
       rcases (show j < i∨j=i by omega) with h7 | rfl
       ·exact HI.out j h7
       ·rw [HXX.out];exact⟨by omega,by omega⟩)⟩
      case measure=>simp [intOf];omega
   ·obtain rfl:i=n:=by omega
    go_wp2_with fail
    go_ret
    exact⟨true,rfl,fun _=>⟨h,HI.out⟩,HB0.out⟩
 ·have h2:(n:Int) > 12:=by omega
  go_wp2_with fail
  go_ret
  exact⟨false,rfl,fun h=>(nomatch h),HB0.out⟩
end CGraph
end
end Go.Proofs.YtfgdfignoakkaaaGreatDoor
