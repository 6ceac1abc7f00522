/- -/
import Derived.Test.YtceehogkckdbkaaDoorGH48
open Go.Lib (hid)
open Nat (le_refl lt_of_succ_lt lt_succ_self)
set_option linter.unusedVariables false
set_option linter.unusedSimpArgs false
set_option maxRecDepth 100000
set_option maxHeartbeats 16000000
namespace Go.Proofs.YtceehogkckdbkaaDoor
namespace CConv
end CConv
namespace CFix
end CFix
namespace CGraph
end CGraph
namespace CJoin
end CJoin
namespace CKind
end CKind
namespace CSat
end CSat
namespace CShape
end CShape
namespace CSpan
end CSpan
namespace CTensor
end CTensor
open Go Go.ChangeShapes Go.WideShapes Go.ChangeAt Go.RowKit Go.Deep
section
namespace CGuard
open Plain CSat CFix CShape CTensor CConv CSpan CKind CGraph CJoin
theorem eqReach (a b x y:Int) (w:World):(Op.equalIn 10000 42 (.agg #[.int .i8 a,.int .i8 b]) (.agg #[.int .i8 x,.int .i8 y])).run Tryd.prog w=.ok (a == x && b == y) w:=by
 have u3:=Tryd.underlying23
 have a3:=Tryd.isAgg23
 have z3:=Tryd.sizeOf23
 have hS:Tryd.prog.underlying 42=some (.struct (Tryd.prog.fieldsOf 42)):=by kernel_rfl
 rw [show (10000:Nat)=9999+1 from rfl,run_equalIn_agg w 9999 42 _ _ hS Tryd.stoodInHeld42]
 simp only [Program.fieldsOf,Tryd.underlying42]
 go_simp
 by_cases h1:a=x <;> by_cases h2:b=y <;> simp [h1,h2]
theorem ndl_of {w:World} {B:Nat} {x:Nd} (h:NdOk w B x):∃ p:List Int × List Int,NdL w B x p.1 p.2:=by
 obtain⟨zs,a1,a2,a3,a4,a5⟩:=h.ws
 obtain⟨ys,b1,b2,b3,b4,b5⟩:=h.bs
 refine⟨(zs,ys),⟨h,a1,b1,⟨a2,b2⟩,?_,?_,a5,b5⟩⟩
 ·intro q
  by_cases hq:q < zs.length
  ·have e:zs.getD q 0=zs[q]:=by rw [List.getD_eq_getElem?_getD,List.getElem?_eq_getElem hq];rfl
   rw [e]
   simpa [Lit.wf,IntKind.min,IntKind.max,IntKind.signed,IntKind.bits] using a4 _ (List.getElem_mem hq)
  ·rw [List.getD_eq_getElem?_getD,List.getElem?_eq_none (Nat.le_of_not_lt hq)];exact⟨by decide,by decide⟩
 ·intro q
  by_cases hq:q < ys.length
  ·have e:ys.getD q 0=ys[q]:=by rw [List.getD_eq_getElem?_getD,List.getElem?_eq_getElem hq];rfl
   rw [e]
   simpa [Lit.wf,IntKind.min,IntKind.max,IntKind.signed,IntKind.bits] using b4 _ (List.getElem_mem hq)
  ·rw [List.getD_eq_getElem?_getD,List.getElem?_eq_none (Nat.le_of_not_lt hq)];exact⟨by decide,by decide⟩
def nd7:Nd:=⟨7,0,0,0,0,0,0,0,0,none,0,0,none,0,0,1,0,0,0,0,0,0,127⟩
theorem nd7_ok (w:World) (B:Nat):NdL w B nd7 [] [] :=
 ⟨⟨by decide,by decide,by decide,by decide,by decide,by decide,⟨[],rfl,le_refl _,by decide,by simp,Kit.Rd.nil⟩,⟨[],rfl,le_refl _,by decide,by simp,Kit.Rd.nil⟩⟩,rfl,rfl,⟨le_refl _,le_refl _⟩,fun q=>by simp,fun q=>by simp,Kit.Rd.nil,Kit.Rd.nil⟩
theorem nd7_small:nd7.Small:=⟨by decide,by decide,by decide,by decide⟩
theorem nd7_is:gnZ nd7 [] [] (-128) 50 0 0=(0,50,0):=by decide +kernel
theorem known32 (w:World) (hT:zab w):Calls Tryd.prog 8 #[] w fun e w'=>e=.returned (.bool true)∧Below w.heap.size w w':=by
 have CN:=hid (cgnode_to (w:=w) nd7 nd7_small hT (-128) 50 0 0 (by decide) [] [] (nd7_ok w _) (by decide) (by decide))
 rw [nd7_is] at CN
 have HQ:=hid (eqReach 0 50 0 50)
 have HG:=hid Tryd.eqGuardType42
 go_enter Tryd.func8,Tryd.ntmps8
 go_upto_region 2 with (go_at_call 11;(refine CN.out.mono ?_);rintro e w1 ⟨rfl,hb⟩;have HB1:=hid hb;clear hb)
 have HB2:=hid (HB1.out.alloc HB1.out.size (.cells #[.int .i8 0,.int .i8 50] 42))
 obtain⟨q0,q1⟩:=rchNew 0 50 42 w1
 generalize w1.alloc (.cells #[.int .i8 0,.int .i8 50] 42)=W2 at HB2 q0 q1 ⊢
 have hq:=HQ.out
 have hgd:=HG.out
 go_wp2_with fail
 go_ret
 exact⟨rfl,HB2.out⟩
end CGuard
end
end Go.Proofs.YtceehogkckdbkaaDoor
