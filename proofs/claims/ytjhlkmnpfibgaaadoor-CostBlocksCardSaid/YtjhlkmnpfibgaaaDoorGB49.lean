/- -/
import Derived.LaidMore
import Derived.Stop.Joined
import Derived.Test.YtjhlkmnpfibgaaaDoorGB42
open Nat (le_refl lt_of_succ_lt lt_succ_self)
set_option linter.unusedVariables false
set_option linter.unusedSimpArgs false
set_option maxRecDepth 100000
set_option maxHeartbeats 16000000
namespace Go.Proofs.YtjhlkmnpfibgaaaDoor
namespace CConv
end CConv
namespace CSat
end CSat
namespace CTensor
end CTensor
open Go Go.ChangeShapes Go.WideShapes Go.ChangeAt Go.RowKit Go.Deep
section
namespace CGraph
open Plain CSat CFix CShape CTensor CConv CKind
theorem eqShape (a b c x y z:Int) (w:World):(Op.equalIn 10000 30 (.agg #[.int .i64 a,.int .i64 b,.int .i64 c]) (.agg #[.int .i64 x,.int .i64 y,.int .i64 z])).run Tryd.prog w=.ok (a == x && (b == y && c == z)) w:=by
 have u3:=Tryd.underlying3
 have a3:=Tryd.isAgg3
 have z3:=Tryd.sizeOf3
 have hS:Tryd.prog.underlying 30=some (.struct (Tryd.prog.fieldsOf 30)):=by kernel_rfl
 rw [show (10000:Nat)=9999+1 from rfl,run_equalIn_agg w 9999 30 _ _ hS Tryd.stoodInHeld30]
 simp only [Program.fieldsOf,Tryd.underlying30]
 go_simp
 by_cases h1:a=x <;> by_cases h2:b=y <;> by_cases h3:c=z <;> simp [h1,h2,h3]
def nd9:Nd:=⟨9,0,0,0,0,0,0,0,0,none,0,0,none,0,0,0,0,0,0,0,0,0,0⟩
/-! ### what Shapes tells, in one form -/
def outL (X:Nat→Nd) (t0:Tri) (n:Nat):List Tri:=match outS X t0 n with | some _=>[] | none=>shL X t0 n
def outZ (X:Nat→Nd) (t0:Tri) (n:Nat):Int:=match outS X t0 n with | some r=>r.2 | none=>0
end CGraph
end
section
namespace CKind
open Go Go.ChangeShapes Go.WideShapes Go.ChangeAt Go.RowKit Go.Deep Go.WideElems
open Plain CSat CFix CShape CTensor CConv
theorem gVar : Tryd.prog.globalNamed "stepwell/kinds.names" = some 0 := by kernel_rfl
theorem tVar:(Tryd.prog.globals[0]?).map (·.type)=some 121:=by kernel_rfl
def namesZ:List (List UInt8):=[[],[99,111,110,118],[100,101,112,116,104],[100,101,110,115,101],[109,97,120,112,111,111,108],[97,118,103,112,111,111,108],[106,111,105,110],[97,99,116],[112,97,100],[102,108,97,116]]
theorem namesZ_at:∀ n:Nat,n < 10→namesZ[n]?=some (kname n).data.toList:=by decide +kernel
theorem of_laid {W : World} (h : laidMetH Tryd.prog [("stepwell/kinds.names", Rows.laid_stepwell_kinds_names)] W) : zav W := by
 rw [MakeChecks.laidMetH_plain _ _ _ (by kernel_rfl)] at h
 obtain⟨ps,⟨g0,t0,cs0,f0,p0,q0,hg0,ht0,hv0,hd0,_⟩,_,_⟩:=h
 obtain rfl:=Option.some.inj (gVar.symm.trans hg0)
 obtain rfl:=Option.some.inj (tVar.symm.trans ht0)
 obtain⟨xs,m1,rfl,hx1,hlen,hn3,hel⟩:=DataW.trod_array Tryd.underlying121 hd0
 have c1:Tryd.prog.cellsOf 9=1:=by kernel_rfl
 intro n hn
 rw [World.var?_cell hg0 hv0 n]
 have hi:=hel n hn
 rw [c1] at hi
 have hxs:xs.map (·.1)=namesZ.map fun z=>.lit (.string z):=by
  have:=congrArg Prod.fst hx1
  simp only [Rows.laid_stepwell_kinds_names,DataW.agg.injEq] at this
  exact this.symm
 have hxn:(xs.map (·.1))[n]?=some (.lit (.string (kname n).data.toList)):=by
  rw [hxs,List.getElem?_map,namesZ_at n hn];rfl
 rw [List.getElem?_map] at hxn
 obtain⟨x,hx,hx2⟩:=Option.map_eq_some_iff.1 hxn
 rw [hx] at hi
 obtain⟨k,e1,e2,_⟩:=DataW.trod_string Tryd.underlying9 hi
 have hk:k=kname n:=by
  rw [e2] at hx2
  simp only [DataW.lit.injEq,Lit.string.injEq] at hx2
  exact ByteArray.ext (Array.toList_inj.1 hx2)
 subst hk
 have h0:=congrArg (fun l:List Value=>l[0]?) e1
 simpa using h0
end CKind
end
section
namespace CKind
open Plain CSat CShape CTensor CConv
theorem node_types:Tryd.prog.cellTypes Tryd.prog.depth 35=some [3,3,3,3,3,3,3,31,31,23,24,21,3,31,21,3,31,31,31]:=by kernel_rfl
theorem cell_int {P:Program} {w:World} {r:Reach} {b0:Nat} {t u:TypeId} {fs:Array Field} {cs:Array Value} {ts:List TypeId} (ht:P.underlying t=some (.struct fs)) (hts:P.cellTypes P.depth t=some ts) (hv:Value.okWide P w r b0 t (.agg cs))
  (i:Nat) (v:Value) (hi:cs[i]?=some v) (hu:ts[i % ts.length]?=some u) (k:IntKind) (hk:P.underlying u=some (.int k)):∃ n,v=.int k n∧k.min≤n∧n≤k.max:=by
 simp only [Value.okWide,ht] at hv
 obtain⟨cs',e,_,ts',hts',_,hr⟩:=hv
 cases e
 rw [hts] at hts'
 cases hts'
 obtain⟨u',hu',hc⟩:=hr i v hi
 rw [hu] at hu'
 cases hu'
 unfold Cell.okWide Cell.ok at hc
 rw [hk] at hc
 cases v <;> simp at hc
 obtain⟨rfl,h⟩:=hc
 exact⟨_,rfl,h.1,h.2⟩
def NdBd (kd na nb Y m1 s1 z1 m2 s2 z2 lo hi:Int):Prop:=(-9223372036854775808≤kd∧kd≤9223372036854775807)∧(-9223372036854775808≤na∧na≤9223372036854775807)∧(-9223372036854775808≤nb∧nb≤9223372036854775807)∧(-128≤Y∧Y≤127)∧(-2147483648≤m1∧m1≤2147483647)∧(-9223372036854775808≤s1∧s1≤9223372036854775807)∧(-128≤z1∧z1≤127)∧(-2147483648≤m2∧m2≤2147483647)∧(-9223372036854775808≤s2∧s2≤9223372036854775807)∧(-128≤z2∧z2≤127)∧(-128≤lo∧lo≤127)∧(-128≤hi∧hi≤127)
theorem nd_cells {w:World} {r:Reach} {b0:Nat} {a0 a1 a2 a3 a4 a5 a6 a7 a8 a9 a10 a11 a12 a13 a14 a15 a16 a17 a18:Value} (hv:Value.okWide Tryd.prog w r b0 35 (.agg #[a0,a1,a2,a3,a4,a5,a6,a7,a8,a9,a10,a11,a12,a13,a14,a15,a16,a17,a18])) :
  ∃ kd na nb Y m1 s1 z1 m2 s2 z2 lo hi:Int,(a0=.int .i64 kd∧a1=.int .i64 na∧a2=.int .i64 nb∧a8=.int .i8 Y∧a11=.int .i32 m1∧a12=.int .i64 s1∧a13=.int .i8 z1∧a14=.int .i32 m2∧a15=.int .i64 s2∧a16=.int .i8 z2∧a17=.int .i8 lo∧a18=.int .i8 hi)∧NdBd kd na nb Y m1 s1 z1 m2 s2 z2 lo hi:=by
 have h:=fun (i:Nat) (v:Value) hi u hu k hk=>cell_int (u:=u) Tryd.underlying35 node_types hv i v hi hu k hk
 obtain⟨kd,e0,l0,u0⟩:=h 0 a0 rfl _ rfl .i64 Tryd.underlying3
 obtain⟨na,e1,l1,u1⟩:=h 1 a1 rfl _ rfl .i64 Tryd.underlying3
 obtain⟨nb,e2,l2,u2⟩:=h 2 a2 rfl _ rfl .i64 Tryd.underlying3
 obtain⟨Y,e8,l8,u8⟩:=h 8 a8 rfl _ rfl .i8 Tryd.underlying31
 obtain⟨m1,e11,l11,u11⟩:=h 11 a11 rfl _ rfl .i32 Tryd.underlying21
 obtain⟨s1,e12,l12,u12⟩:=h 12 a12 rfl _ rfl .i64 Tryd.underlying3
 obtain⟨z1,e13,l13,u13⟩:=h 13 a13 rfl _ rfl .i8 Tryd.underlying31
 obtain⟨m2,e14,l14,u14⟩:=h 14 a14 rfl _ rfl .i32 Tryd.underlying21
 obtain⟨s2,e15,l15,u15⟩:=h 15 a15 rfl _ rfl .i64 Tryd.underlying3
 obtain⟨z2,e16,l16,u16⟩:=h 16 a16 rfl _ rfl .i8 Tryd.underlying31
 obtain⟨lo,e17,l17,u17⟩:=h 17 a17 rfl _ rfl .i8 Tryd.underlying31
 obtain⟨hi,e18,l18,u18⟩:=h 18 a18 rfl _ rfl .i8 Tryd.underlying31
 clear h hv
 simp only [IntKind.min,IntKind.max,IntKind.signed,IntKind.bits] at *
 refine⟨kd,na,nb,Y,m1,s1,z1,m2,s2,z2,lo,hi,⟨e0,e1,e2,e8,e11,e12,e13,e14,e15,e16,e17,e18⟩,?_⟩
 unfold NdBd
 simp at *
 omega
end CKind
end
end Go.Proofs.YtjhlkmnpfibgaaaDoor
