/- -/
import Derived.LaidMore
import Derived.Stop.Joined
import Derived.Test.YtdphhfijgckhiaaDoorGP46
import Derived.Test.YtdphhfijgckhiaaDoorGP47
import Derived.Test.YtdphhfijgckhiaaDoorGP49
open Go.Lib (hid)
open Nat (le_refl lt_of_succ_lt lt_succ_self)
set_option linter.unusedVariables false
set_option linter.unusedSimpArgs false
set_option maxRecDepth 100000
set_option maxHeartbeats 16000000
namespace Go.Proofs.YtdphhfijgckhiaaDoor
namespace CConv
end CConv
namespace CTensor
end CTensor
open Go Go.ChangeShapes Go.WideShapes Go.ChangeAt Go.RowKit Go.Deep
section
namespace CGraph
open Plain CSat CFix CShape CTensor CConv CKind
theorem eqShape (a b c x y z:Int) (w:World):(Op.equalIn 10000 24 (.agg #[.int .i64 a,.int .i64 b,.int .i64 c]) (.agg #[.int .i64 x,.int .i64 y,.int .i64 z])).run Tryd.prog w=.ok (a == x && (b == y && c == z)) w:=by
 have u3:=Tryd.underlying3
 have a3:=Tryd.isAgg3
 have z3:=Tryd.sizeOf3
 have hS:Tryd.prog.underlying 24=some (.struct (Tryd.prog.fieldsOf 24)):=by kernel_rfl
 rw [show (10000:Nat)=9999+1 from rfl,run_equalIn_agg w 9999 24 _ _ hS Tryd.stoodInHeld24]
 simp only [Program.fieldsOf,Tryd.underlying24]
 go_simp
 by_cases h1:a=x <;> by_cases h2:b=y <;> by_cases h3:c=z <;> simp [h1,h2,h3]
theorem rowI_len (F:Nat→Int) (n:Nat):(rowI F n).length=n:=by simp [rowI]
theorem rdI_at {w:World} {B:Nat} {A:Option Addr} {S:Nat→Int} {n:Nat} (h:Kit.Rd w B A (rowI S n)) (hn:0 < n) :
  ∃ b o,A=some ⟨b,o,none⟩∧b < B∧∀ k,k < n→w.cell? ⟨b,o+k,none⟩=some (.int .i64 (S k)):=by
 obtain⟨b,o,e,hb,hc⟩:=h.plain (by rw [rowI_len];exact hn)
 exact⟨b,o,e,hb,fun k hk=>hc k _ (rowI_at S hk)⟩
theorem isame_to (F:Nat→Int) (n:Nat) (hn:n≤1000) (A A':Option Addr) (c c':Nat) (w:World) {B B':Nat} (hr:Kit.Rd w B A (rowI F n)) (hr':Kit.Rd w B' A' (rowI F n)) :
  Calls Tryd.prog 12 #[.slice A n c,.slice A' n c'] w fun e w'=>e=.returned (.bool true)∧∃ m,w'=w.drewN m:=by
 have HA:=hid hr
 have HB:=hid hr'
 clear hr hr'
 go_enter Tryd.func12,Tryd.ntmps12
 go_wp2_with fail
 go_loopw [5] (fun u wr=>∃ k nq:Nat,k≤n∧u=.int .i64 k∧Hid (wr=w.drewN nq)) (fun u _=>n - (intOf u).toNat)
 case atStart=>exact⟨0,0,Nat.zero_le _,rfl,hid rfl⟩
 case round =>
  obtain⟨k,nq,hk,rfl,hw⟩:=hrel
  obtain rfl:=hw.out
  clear hw
  by_cases hlt:k < n
  ·obtain⟨b1,o1,rfl, -,h1⟩:=rdI_at HA.out (by omega)
   obtain⟨b2,o2,rfl, -,h2⟩:=rdI_at HB.out (by omega)
   have c1:=h1 k hlt
   have c2:=h2 k hlt
   have k0:(0:Int)≤(k:Int):=by omega
   have k1:(k:Int) < (n:Int):=by omega
   clear h1 h2
   go_wp2_with fail
   go_quiet (fail)
   go_wp2
   go_roundw
   case rel=>exact⟨k+1,_,by omega,by go_num,hid rfl⟩
   case measure=>simp [intOf];omega
  ·obtain rfl:k=n:=by omega
   go_wp2_with fail
   go_ret
   exact⟨rfl,nq,rfl⟩
def nd9:Nd:=⟨9,0,0,0,0,0,0,0,0,none,0,0,none,0,0,0,0,0,0,0,0,0,0⟩
/-! ### what Shapes tells, in one form -/
def outL (X:Nat→Nd) (t0:Tri) (n:Nat):List Tri:=match outS X t0 n with | some _=>[] | none=>shL X t0 n
def outP (X:Nat→Nd) (t0:Tri) (n:Nat):Int:=match outS X t0 n with | some r=>r.1 | none=>n
def outZ (X:Nat→Nd) (t0:Tri) (n:Nat):Int:=match outS X t0 n with | some r=>r.2 | none=>0
theorem shp_view {X:Nat→Nd} {t0:Tri} {n:Nat} {w w':World} {e:Ending} (h:ShpPost X t0 n w e w'):∃ (A:Option Addr) (c:Nat),e=.returned (.tuple #[.slice A (outL X t0 n).length c,.int .i64 (outP X t0 n),.int .i64 (outZ X t0 n)])∧Kit.Rd w' w'.heap.size A (tvV (outL X t0 n))∧Below w.heap.size w w':=by
 obtain⟨⟨k,z,h1,rfl⟩ | ⟨h1,v,rfl,ho⟩,hb⟩:=h
 ·refine⟨none,0,?_,?_,hb⟩
  ·unfold outL outP outZ;rw [h1];rfl
  ·unfold outL;rw [h1];exact Kit.Rd.nil
 ·obtain⟨A,c,rfl, -, -,hr⟩:=Kit.zbd ho
  refine⟨A,c,?_,?_,hb⟩
  ·unfold outL outP outZ;rw [h1];simp [shL_len]
  ·unfold outL;rw [h1];exact hr
end CGraph
end
section
namespace CSlab
open Plain CSat CFix CShape CTensor CConv CKind CGraph
def outR (X:Nat→Nd) (t0:Tri) (n:Nat):Int:=match outS X t0 n with | some _=>0 | none=>rmF X t0 n
theorem of_view {X:Nat→Nd} {t0:Tri} {n:Nat} {w w':World} {e:Ending} (h:OfPost X t0 n w e w'):∃ (A B:Option Addr) (c d:Nat),e=.returned (.tuple #[.agg #[.slice A (outL X t0 n).length c,.slice B (outL X t0 n).length d,.int .i64 (outR X t0 n)],.int .i64 (outP X t0 n),.int .i64 (outZ X t0 n)])∧Kit.Rd w' w'.heap.size A (tvV (outL X t0 n))∧Kit.Rd w' w'.heap.size B (CArena.rowV (atF X t0 n) (outL X t0 n).length)∧Below w.heap.size w w':=by
 obtain⟨⟨k,z,h1,rfl⟩ | ⟨h1,v1,v2,rfl,ho1,ho2⟩,hb⟩:=h
 ·refine⟨none,none,0,0,?_,?_,?_,hb⟩
  ·unfold outL outP outZ outR;rw [h1];rfl
  ·unfold outL;rw [h1];exact Kit.Rd.nil
  ·unfold outL;rw [h1];exact Kit.Rd.nil
 ·obtain⟨A,c,rfl, -, -,hr⟩:=Kit.zbd ho1
  obtain⟨B,d,rfl, -, -,hr2⟩:=Kit.zbd ho2
  refine⟨A,B,c,d,?_,?_,?_,hb⟩
  ·unfold outL outP outZ outR;rw [h1];simp [shL_len]
  ·unfold outL;rw [h1];exact hr
  ·unfold outL;rw [h1];simp only [shL_len];exact hr2
theorem out_two (X:Nat→Nd) (t0:Tri) (n:Nat):(outZ X t0 n≠0∧(outL X t0 n).length=0∧outR X t0 n=0)∨(outZ X t0 n=0∧outS X t0 n=none∧outL X t0 n=shL X t0 n∧(outL X t0 n).length=n+1∧outR X t0 n=rmF X t0 n∧outP X t0 n=n):=by
 cases h:outS X t0 n with
 | some r =>
   left
   unfold outZ outL outR
   rw [h]
   exact⟨outS_nz (k:=r.1) h,rfl,rfl⟩
 | none =>
   right
   unfold outZ outL outR outP
   rw [h]
   exact⟨rfl,rfl,rfl,shL_len X t0 n,rfl,rfl⟩
def PlanAt (B:Nat) (v1 v2:Value) (R:Int) (wd:World):Prop:=wd.cell? ⟨B,0,none⟩=some v1∧wd.cell? ⟨B,1,none⟩=some v2∧wd.cell? ⟨B,2,none⟩=some (.int .i64 R)
theorem planNew (v1 v2:Value) (R:Int) (T:TypeId) (w:World):PlanAt w.heap.size v1 v2 R (w.alloc (.cells #[v1,v2,.int .i64 R] T)):=⟨Kit.zar _ _ _ _,Kit.zar _ _ _ _,Kit.zar _ _ _ _⟩
theorem PlanAt.below {B B':Nat} {v1 v2:Value} {R:Int} {w w':World} (h:PlanAt B v1 v2 R w) (hB:B < B') (hb:Below B' w w'):PlanAt B v1 v2 R w' :=
 ⟨(hb.cell (p:=⟨B,0,none⟩) hB).trans h.1,(hb.cell (p:=⟨B,1,none⟩) hB).trans h.2.1,(hb.cell (p:=⟨B,2,none⟩) hB).trans h.2.2⟩
theorem node_one (w:World):za4 (w.alloc (.cells #[.int .i64 9,.int .i64 0,.int .i64 0,.int .i64 0,.int .i64 0,.int .i64 0,.int .i64 0,.int .i8 0,.int .i8 0,.slice none 0 0,.slice none 0 0,.int .i32 0,.int .i64 0,.int .i8 0,.int .i32 0,.int .i64 0,.int .i8 0,.int .i8 0,.int .i8 0] 50)) (w.alloc (.cells #[.int .i64 9,.int .i64 0,.int .i64 0,.int .i64 0,.int .i64 0,.int .i64 0,.int .i64 0,.int .i8 0,.int .i8 0,.slice none 0 0,.slice none 0 0,.int .i32 0,.int .i64 0,.int .i8 0,.int .i32 0,.int .i64 0,.int .i8 0,.int .i8 0,.int .i8 0] 50)).heap.size (some ⟨w.heap.size,0,none⟩) 1 (fun _=>nd9):=by
 intro j hj
 obtain rfl:j=0:=by omega
 refine⟨w.heap.size,0,rfl,by simp,fun q v hq=>?_⟩
 rw [Kit.zar]
 have hq2:q < 19:=(List.getElem?_eq_some_iff.1 hq).1
 rw [← hq]
 match q,hq2 with
 | 0,_=>rfl
 | 1,_=>rfl
 | 2,_=>rfl
 | 3,_=>rfl
 | 4,_=>rfl
 | 5,_=>rfl
 | 6,_=>rfl
 | 7,_=>rfl
 | 8,_=>rfl
 | 9,_=>rfl
 | 10,_=>rfl
 | 11,_=>rfl
 | 12,_=>rfl
 | 13,_=>rfl
 | 14,_=>rfl
 | 15,_=>rfl
 | 16,_=>rfl
 | 17,_=>rfl
 | 18,_=>rfl
theorem nd9_small:nd9.Small:=⟨⟨by decide,by decide⟩,⟨by decide,by decide⟩,⟨by decide,by decide⟩,⟨by decide,by decide⟩⟩
theorem k_out:outS (fun _=>nd9) (2,1,1) 1=none:=by decide
theorem k_at:CArena.rowV (atF (fun _=>nd9) (2,1,1) 1) 2=[.int .i64 0,.int .i64 2]:=by
 have h0:atF (fun _=>nd9) (2,1,1) 1 0=0:=by decide
 have h1:atF (fun _=>nd9) (2,1,1) 1 1=2:=by decide
 simp [CArena.rowV,List.range_succ,h0,h1]
theorem k_rm:rmF (fun _=>nd9) (2,1,1) 1=4:=by decide
def KK (i:Nat):Int:=if i=0 then 0 else 2
theorem KK_row:rowI KK 2=[.int .i64 0,.int .i64 2]:=rfl
theorem known29 (w:World) (hT:za0 w):Calls Tryd.prog 6 #[] w fun e w'=>e=.returned (.bool true)∧Below w.heap.size w w':=by
 have HN:=hid (node_one w)
 have HB0:=hid ((Below.refl w.heap.size w).alloc (le_refl _) (.cells #[.int .i64 9,.int .i64 0,.int .i64 0,.int .i64 0,.int .i64 0,.int .i64 0,.int .i64 0,.int .i8 0,.int .i8 0,.slice none 0 0,.slice none 0 0,.int .i32 0,.int .i64 0,.int .i8 0,.int .i32 0,.int .i64 0,.int .i8 0,.int .i8 0,.int .i8 0] 50))
 have HT:=hid (hT.below HB0.out hT.size)
 clear hT
 go_enter Tryd.func6,Tryd.ntmps6
 go_wp2_with fail
 go_at_call 7
 refine (of_to (fun _=>nd9) (2,1,1) 1 _ (by omega) _ _ HT.out (fun _ _=>nd9_small) HN.out).mono ?_
 rintro e w1 ⟨⟨k,z,h1,rfl⟩ | ⟨h1,v1,v2,rfl,ho1,ho2⟩,hb⟩
 ·rw [k_out] at h1;cases h1
 ·rw [k_rm]
  rw [k_at] at ho2
  obtain⟨A1,c1,rfl, -, -, -⟩:=Kit.zbd ho1
  obtain⟨A2,c2,rfl, -, -,hrd⟩:=Kit.zbd ho2
  have HB1:=hid (HB0.out.trans (hb.mono HB0.out.size))
  have hal:=(Below.refl w1.heap.size w1).alloc (le_refl _) (.cells #[.slice A1 (1+1) c1,.slice A2 (1+1) c2,.int .i64 4] 33)
  have HRD:=hid ((hrd.below hal).more hal.size)
  have HB2:=hid (HB1.out.trans (hal.mono HB1.out.size))
  have HPL:=hid (planNew (.slice A1 (1+1) c1) (.slice A2 (1+1) c2) 4 33 w1)
  clear h1 ho1 ho2 hb hrd hal HN HT HB0 HB1
  go_upto_region 2 with fail
  generalize w1.alloc (.cells #[.slice A1 (1+1) c1,.slice A2 (1+1) c2,.int .i64 4] 33)=W2 at HRD HB2 HPL ⊢
  obtain⟨p0,p1,p2⟩:=HPL.out
  go_wp2_with (go_at_call 12;(refine (isame_to KK 2 (by omega) A2 _ c2 2 _ (HRD.out.below ((Below.refl _ _).alloc (le_refl _) _)) (by rw [KK_row];exact Kit.Rd.new _ _ _ (lt_succ_self _))).mono ?_);rintro e w3 ⟨rfl,m,rfl⟩)
  go_ret
  exact⟨rfl,Kit.below_drewN (HB2.out.alloc HB2.out.size _) _⟩
/-! ### two rows that grow together -/
def Apart (u v:Value):Prop:=∀ g,u.ownBlock=some g→v.ownBlock≠some g
theorem Apart.symm {u v:Value} (h:Apart u v):Apart v u:=fun g h1 h2=>h g h2 h1
theorem apart_kept {w w':World} {base:Nat} {T:TypeId} {n:Nat} {u v:Value} {xs:List Value} (h:w.ownsRow base T 1 v n xs) (ha:Apart u v) (hg:w.grownBy w' u.ownBlock):w'.ownsRow base T 1 v n xs:=by
 refine h.kept hg ?_
 cases hu:u.ownBlock with
 | none =>
   cases hv:v.ownBlock with
   | none=>exact .inl rfl
   | some g=>exact .inr (by simp)
 | some g=>exact .inr (ha g hu)
theorem apart_next {w:World} {base:Nat} {T:TypeId} {n:Nat} {u u' v:Value} {xs:List Value} (h:w.ownsRow base T 1 v n xs) (ha:Apart u v) (he:u'.ownBlock=u.ownBlock∨u'.ownBlock=some w.heap.size):Apart u' v:=fun g hg hv=>by
 rcases he with he | he
 ·rw [he] at hg;exact ha g hg hv
 ·rw [he] at hg
  cases hg
  rcases h.2 with ⟨rfl,_⟩ | ⟨g',cap,cur,rfl,_,hh,_⟩
  ·cases hv
  ·cases hv
   exact absurd (Array.getElem?_eq_some_iff.1 hh).1 (Nat.lt_irrefl _)
end CSlab
end
section
namespace CKind
open Go Go.ChangeShapes Go.WideShapes Go.ChangeAt Go.RowKit Go.Deep Go.WideElems
open Plain CSat CFix CShape CTensor CConv
theorem gVar : Tryd.prog.globalNamed "stepwell/kinds.names" = some 0 := by kernel_rfl
theorem tVar:(Tryd.prog.globals[0]?).map (·.type)=some 125:=by kernel_rfl
def namesZ:List (List UInt8):=[[],[99,111,110,118],[100,101,112,116,104],[100,101,110,115,101],[109,97,120,112,111,111,108],[97,118,103,112,111,111,108],[106,111,105,110],[97,99,116],[112,97,100],[102,108,97,116]]
theorem namesZ_at:∀ n:Nat,n < 10→namesZ[n]?=some (kname n).data.toList:=by decide +kernel
theorem of_laid {W : World} (h : laidMetH Tryd.prog [("stepwell/kinds.names", Rows.laid_stepwell_kinds_names)] W) : za0 W := by
 rw [MakeChecks.laidMetH_plain _ _ _ (by kernel_rfl)] at h
 obtain⟨ps,⟨g0,t0,cs0,f0,p0,q0,hg0,ht0,hv0,hd0,_⟩,_,_⟩:=h
 obtain rfl:=Option.some.inj (gVar.symm.trans hg0)
 obtain rfl:=Option.some.inj (tVar.symm.trans ht0)
 obtain⟨xs,m1,rfl,hx1,hlen,hn3,hel⟩:=DataW.trod_array Tryd.underlying125 hd0
 have c1:Tryd.prog.cellsOf 9=1:=by kernel_rfl
 intro n hn
 rw [World.var?_cell hg0 hv0 n]
 have hi:=hel n hn
 rw [c1] at hi
 have hxs:xs.map (·.1)=namesZ.map fun z=>.lit (.string z):=by
  have:=congrArg Prod.fst hx1
  simp only [Rows.laid_stepwell_kinds_names,DataW.agg.injEq] at this
  exact this.symm
 have hxn:(xs.map (·.1))[n]?=some (.lit (.string (kname n).data.toList)):=by
  rw [hxs,List.getElem?_map,namesZ_at n hn];rfl
 rw [List.getElem?_map] at hxn
 obtain⟨x,hx,hx2⟩:=Option.map_eq_some_iff.1 hxn
 rw [hx] at hi
 obtain⟨k,e1,e2,_⟩:=DataW.trod_string Tryd.underlying9 hi
 have hk:k=kname n:=by
  rw [e2] at hx2
  simp only [DataW.lit.injEq,Lit.string.injEq] at hx2
  exact ByteArray.ext (Array.toList_inj.1 hx2)
 subst hk
 have h0:=congrArg (fun l:List Value=>l[0]?) e1
 simpa using h0
end CKind
end
end Go.Proofs.YtdphhfijgckhiaaDoor
