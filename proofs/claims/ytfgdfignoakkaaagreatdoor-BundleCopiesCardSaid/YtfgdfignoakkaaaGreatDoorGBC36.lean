/- -/
import Derived.LaidMore
import Derived.Stop.Joined
import Derived.Test.YtfgdfignoakkaaaGreatDoorGBC16
import Derived.Test.YtfgdfignoakkaaaGreatDoorGBC27
open Nat (le_refl lt_of_succ_lt lt_succ_self)
set_option linter.unusedVariables false
set_option linter.unusedSimpArgs false
set_option maxRecDepth 100000
set_option maxHeartbeats 16000000
namespace Go.Proofs.YtfgdfignoakkaaaGreatDoor
namespace CKind
end CKind
section
namespace CBunL
open Go Go.ChangeShapes Go.WideShapes Go.ChangeAt Go.RowKit Go.Deep Go.WideElems
open CKind CrcNum CCrc
theorem gVarC : Tryz.prog.globalNamed "stepwell/crc.halves" = some 0 := by kernel_rfl
theorem tVarC:(Tryz.prog.globals[0]?).map (·.type)=some 158:=by kernel_rfl
theorem gVarK : Tryz.prog.globalNamed "stepwell/kinds.names" = some 1 := by kernel_rfl
theorem tVarK:(Tryz.prog.globals[1]?).map (·.type)=some 278:=by kernel_rfl
def tabZ:List Int:=[0,498536548,997073096,651767980,1994146192,1802195444,1303535960,1342533948,3988292384,4027552580,3604390888,3412177804,2607071920,2262029012,2685067896,3183342108]
theorem tabZ_at:∀ n:Nat,n < 16→tabZ[n]?=some (toI (tab n)):=by decide +kernel
def namesZ:List (List UInt8):=[[],[99,111,110,118],[100,101,112,116,104],[100,101,110,115,101],[109,97,120,112,111,111,108],[97,118,103,112,111,111,108],[106,111,105,110],[97,99,116],[112,97,100],[102,108,97,116]]
theorem namesZ_at:∀ n:Nat,n < 10→namesZ[n]?=some (kname n).data.toList:=by decide +kernel
theorem of_laid {W : World} (h : laidMetH Tryz.prog [("stepwell/crc.halves", Rows.laid_stepwell_crc_halves), ("stepwell/kinds.names", Rows.laid_stepwell_kinds_names)] W) : zah W ∧ NamesIn W := by
 rw [MakeChecks.laidMetH_plain _ _ _ (by kernel_rfl)] at h
 obtain⟨ps,⟨g0,t0,cs0,f0,p0,q0,hg0,ht0,hv0,hd0,⟨g1,t1,cs1,f1,p1,q1,hg1,ht1,hv1,hd1,_⟩,_⟩,_,_⟩:=h
 refine⟨?_,?_⟩
 ·clear hg1 ht1 hv1 hd1
  obtain rfl:=Option.some.inj (gVarC.symm.trans hg0)
  obtain rfl:=Option.some.inj (tVarC.symm.trans ht0)
  obtain⟨xs,m1,rfl,hx1,hlen,hn3,hel⟩:=DataW.trod_array Tryz.underlying158 hd0
  have c1:Tryz.prog.cellsOf 83=1:=by kernel_rfl
  intro n hn
  rw [World.var?_cell hg0 hv0 n]
  have hi:=hel n hn
  rw [c1] at hi
  have hxs:xs.map (·.1)=tabZ.map fun z=>.lit (.int .u32 z):=by
   have:=congrArg Prod.fst hx1
   simp only [Rows.laid_stepwell_crc_halves,DataW.agg.injEq] at this
   exact this.symm
  have hxn:(xs.map (·.1))[n]?=some (.lit (.int .u32 (toI (tab n)))):=by
   rw [hxs,List.getElem?_map,tabZ_at n hn];rfl
  rw [List.getElem?_map] at hxn
  obtain⟨x,hx,hx2⟩:=Option.map_eq_some_iff.1 hxn
  rw [hx] at hi
  obtain⟨k,e1,e2,_⟩:=DataW.trod_int Tryz.underlying83 hi
  have hk:k=toI (tab n):=by rw [e2] at hx2;simpa using hx2
  subst hk
  have h0:=congrArg (fun l:List Value=>l[0]?) e1
  simpa using h0
 ·clear hg0 ht0 hv0 hd0
  obtain rfl:=Option.some.inj (gVarK.symm.trans hg1)
  obtain rfl:=Option.some.inj (tVarK.symm.trans ht1)
  obtain⟨xs,m1,rfl,hx1,hlen,hn3,hel⟩:=DataW.trod_array Tryz.underlying278 hd1
  have c1:Tryz.prog.cellsOf 9=1:=by kernel_rfl
  intro n hn
  rw [World.var?_cell hg1 hv1 n]
  have hi:=hel n hn
  rw [c1] at hi
  have hxs:xs.map (·.1)=namesZ.map fun z=>.lit (.string z):=by
   have:=congrArg Prod.fst hx1
   simp only [Rows.laid_stepwell_kinds_names,DataW.agg.injEq] at this
   exact this.symm
  have hxn:(xs.map (·.1))[n]?=some (.lit (.string (kname n).data.toList)):=by
   rw [hxs,List.getElem?_map,namesZ_at n hn];rfl
  rw [List.getElem?_map] at hxn
  obtain⟨x,hx,hx2⟩:=Option.map_eq_some_iff.1 hxn
  rw [hx] at hi
  obtain⟨k,e1,e2,_⟩:=DataW.trod_string Tryz.underlying9 hi
  have hk:k=kname n:=by
   rw [e2] at hx2
   simp only [DataW.lit.injEq,Lit.string.injEq] at hx2
   exact ByteArray.ext (Array.toList_inj.1 hx2)
  subst hk
  have h0:=congrArg (fun l:List Value=>l[0]?) e1
  simpa using h0
end CBunL
end
end Go.Proofs.YtfgdfignoakkaaaGreatDoor
