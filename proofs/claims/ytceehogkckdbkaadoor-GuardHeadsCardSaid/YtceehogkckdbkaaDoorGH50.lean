/- -/
import Derived.LaidMore
import Derived.Stop.Joined
import Derived.Test.YtceehogkckdbkaaDoorGH30
open Nat (le_refl lt_of_succ_lt lt_succ_self)
set_option linter.unusedVariables false
set_option linter.unusedSimpArgs false
set_option maxRecDepth 100000
set_option maxHeartbeats 16000000
namespace Go.Proofs.YtceehogkckdbkaaDoor
namespace CConv
end CConv
namespace CFix
end CFix
namespace CSat
end CSat
namespace CShape
end CShape
namespace CTensor
end CTensor
section
namespace CKind
open Go Go.ChangeShapes Go.WideShapes Go.ChangeAt Go.RowKit Go.Deep Go.WideElems
open Plain CSat CFix CShape CTensor CConv
theorem gVar : Tryd.prog.globalNamed "stepwell/kinds.names" = some 0 := by kernel_rfl
theorem tVar:(Tryd.prog.globals[0]?).map (·.type)=some 136:=by kernel_rfl
def namesZ:List (List UInt8):=[[],[99,111,110,118],[100,101,112,116,104],[100,101,110,115,101],[109,97,120,112,111,111,108],[97,118,103,112,111,111,108],[106,111,105,110],[97,99,116],[112,97,100],[102,108,97,116]]
theorem namesZ_at:∀ n:Nat,n < 10→namesZ[n]?=some (kname n).data.toList:=by decide +kernel
theorem of_laid {W : World} (h : laidMetH Tryd.prog [("stepwell/kinds.names", Rows.laid_stepwell_kinds_names)] W) : zab W := by
 rw [MakeChecks.laidMetH_plain _ _ _ (by kernel_rfl)] at h
 obtain⟨ps,⟨g0,t0,cs0,f0,p0,q0,hg0,ht0,hv0,hd0,_⟩,_,_⟩:=h
 obtain rfl:=Option.some.inj (gVar.symm.trans hg0)
 obtain rfl:=Option.some.inj (tVar.symm.trans ht0)
 obtain⟨xs,m1,rfl,hx1,hlen,hn3,hel⟩:=DataW.trod_array Tryd.underlying136 hd0
 have c1:Tryd.prog.cellsOf 9=1:=by kernel_rfl
 intro n hn
 rw [World.var?_cell hg0 hv0 n]
 have hi:=hel n hn
 rw [c1] at hi
 have hxs:xs.map (·.1)=namesZ.map fun z=>.lit (.string z):=by
  have:=congrArg Prod.fst hx1
  simp only [Rows.laid_stepwell_kinds_names,DataW.agg.injEq] at this
  exact this.symm
 have hxn:(xs.map (·.1))[n]?=some (.lit (.string (kname n).data.toList)):=by
  rw [hxs,List.getElem?_map,namesZ_at n hn];rfl
 rw [List.getElem?_map] at hxn
 obtain⟨x,hx,hx2⟩:=Option.map_eq_some_iff.1 hxn
 rw [hx] at hi
 obtain⟨k,e1,e2,_⟩:=DataW.trod_string Tryd.underlying9 hi
 have hk:k=kname n:=by
  rw [e2] at hx2
  simp only [DataW.lit.injEq,Lit.string.injEq] at hx2
  exact ByteArray.ext (Array.toList_inj.1 hx2)
 subst hk
 have h0:=congrArg (fun l:List Value=>l[0]?) e1
 simpa using h0
end CKind
end
end Go.Proofs.YtceehogkckdbkaaDoor
