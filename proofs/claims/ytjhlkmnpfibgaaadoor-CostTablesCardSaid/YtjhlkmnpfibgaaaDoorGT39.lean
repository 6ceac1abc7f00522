/- -/
import Derived.LaidMore
import Derived.Stop.Joined
import Derived.Test.YtjhlkmnpfibgaaaDoorGT37
open Go.Lib (hid)
open Nat (le_refl lt_of_succ_lt lt_succ_self)
set_option linter.unusedVariables false
set_option linter.unusedSimpArgs false
set_option maxRecDepth 100000
set_option maxHeartbeats 16000000
namespace Go.Proofs.YtjhlkmnpfibgaaaDoor
namespace CConv
end CConv
namespace CDense
end CDense
namespace CSat
end CSat
namespace CTensor
end CTensor
open Go Go.ChangeShapes Go.WideShapes Go.ChangeAt Go.RowKit Go.Deep
section
namespace CGraph
open Plain CSat CFix CShape CTensor CConv CKind CDense
theorem shV_right {x:Nd} {H W C H2 W2 C2:Int} (h:x.shE H W C H2 W2 C2=0):∃ u0 u1 u2,x.shV H W C H2 W2 C2=#[.int .i64 u0,.int .i64 u1,.int .i64 u2]∧zae u0 u1 u2=true:=by
 have hE:=h
 unfold Nd.shE at h
 unfold Nd.shV
 by_cases h1:x.kd=1
 ·rw [if_pos h1] at h ⊢
  unfold convS
  rw [if_pos h]
  exact⟨_,_,_,rfl,(za2 (CConv.convE_ok h).1).2.2.2.2.2⟩
 ·rw [if_neg h1] at h ⊢
  by_cases h2:x.kd=2
  ·rw [if_pos h2] at h ⊢
   unfold CDepth.depthS
   rw [if_pos h]
   refine⟨_,_,_,rfl,?_⟩
   unfold CDepth.depthE at h
   by_cases h3:zas H W C x.K x.S x.P C≠0
   ·rw [if_pos h3] at h;exact absurd h h3
   ·exact (za2 (by omega:zas H W C x.K x.S x.P C=0)).2.2.2.2.2
  ·rw [if_neg h2] at h ⊢
   by_cases h3:x.kd=3
   ·rw [if_pos h3] at h ⊢
    unfold denseS
    rw [if_pos h]
    refine⟨_,_,_,rfl,?_⟩
    unfold denseE at h
    by_cases h4:zae H W C=true∧zae 1 1 x.O=true
    ·exact h4.2
    ·rw [if_neg h4] at h;omega
   ·rw [if_neg h3] at h ⊢
    by_cases h4:x.kd=4∨x.kd=5
    ·rw [if_pos h4] at h ⊢
     unfold zar
     rw [if_pos h]
     exact⟨_,_,_,rfl,(za2 h).2.2.2.2.2⟩
    ·rw [if_neg h4] at h ⊢
     rw [if_neg (by simp [hE])]
     by_cases h5:x.kd < 1∨9 < x.kd
     ·rw [if_pos h5] at h;omega
     ·rw [if_neg h5] at h
      by_cases h6:zae H W C=false
      ·rw [if_pos h6] at h;omega
      ·rw [if_neg h6] at h
       have h6':zae H W C=true:=by simpa using h6
       by_cases h9:x.kd=9
       ·rw [if_pos h9]
        obtain⟨-,q1,q2⟩:=el_pos H W C h6'
        exact⟨_,_,_,rfl,by simp [zae];omega⟩
       ·rw [if_neg h9]
        by_cases h7:x.kd=6∧(H == H2 && (W == W2 && C == C2))=false
        ·rw [if_pos h7] at h;omega
        ·rw [if_neg h7] at h
         by_cases h8:x.kd=8
         ·rw [if_pos h8] at h ⊢
          by_cases hp:x.P < 0∨4 < x.P
          ·rw [if_pos hp] at h;omega
          ·rw [if_neg hp] at h
           by_cases hq:zae (H+2 * x.P) (W+2 * x.P) C=false
           ·rw [if_pos hq] at h;omega
           ·exact⟨_,_,_,rfl,by simpa using hq⟩
         ·rw [if_neg h8]
          exact⟨_,_,_,rfl,h6'⟩
theorem nextT_right {x:Nd} {l:List Tri} (h:nextE x l=0):zae (nextT x l).1 (nextT x l).2.1 (nextT x l).2.2=true:=by
 obtain⟨u0,u1,u2,e,hs⟩:=shV_right h
 unfold nextT
 rw [e,zbh]
 exact hs
theorem stopZ_ok {x:Nd} {l:List Tri} (h:stopZ x l=0):zbq x l.length=true∧nextE x l=0:=by
 unfold stopZ at h
 by_cases h1:x.checkZ≠0
 ·rw [if_pos h1] at h;exact absurd h h1
 ·rw [if_neg h1] at h
  by_cases h2:zbq x l.length=false
  ·rw [if_pos h2] at h;omega
  ·rw [if_neg h2] at h;exact⟨by simpa using h2,h⟩
theorem stopAt_all {X:Nat→Nd} {t0:Tri} : ∀ {n:Nat},za9 X t0 n=none→∀ k,k < n→stopZ (X k) (shL X t0 k)=0
 | 0,_,k,hk=>by omega
 | n+1,h,k,hk=>by
   rw [za9] at h
   cases hs:za9 X t0 n with
   | some q=>rw [hs] at h;cases h
   | none =>
     rw [hs] at h
     dsimp only at h
     split at h
     ·rename_i hz
      rcases Nat.lt_succ_iff_lt_or_eq.1 hk with h2 | rfl
      ·exact stopAt_all hs k h2
      ·exact hz
     ·cases h
theorem shL_right {X:Nat→Nd} {t0:Tri} (h0:zae t0.1 t0.2.1 t0.2.2=true):∀ {n:Nat},(∀ k,k < n→stopZ (X k) (shL X t0 k)=0)→∀ a∈shL X t0 n,zae a.1 a.2.1 a.2.2=true
 | 0,_,a,ha=>by simp [shL] at ha;subst ha;exact h0
 | n+1,h,a,ha=>by
   rw [shL,List.mem_append] at ha
   rcases ha with ha | ha
   ·exact shL_right h0 (fun k hk=>h k (by omega)) a ha
   ·simp at ha
    subst ha
    exact nextT_right (stopZ_ok (h n (by omega))).2
theorem outS_ok {X:Nat→Nd} {t0:Tri} {n:Nat} (h:outS X t0 n=none):zae t0.1 t0.2.1 t0.2.2=true∧∀ k,k < n→stopZ (X k) (shL X t0 k)=0:=by
 unfold outS at h
 split at h
 ·cases h
 ·rename_i hs
  split at h
  ·cases h
  ·split at h
   ·cases h
   ·cases hz:za9 X t0 n with
    | some r=>rw [hz] at h;cases h
    | none=>exact⟨by simpa using hs,stopAt_all hz⟩
theorem ops_in {X:Nat→Nd} {t0:Tri} {n i:Nat} (h:outS X t0 n=none) (hi:i < n):zbq (X i) (i+1)=true∧(0≤(X i).na∧(X i).na≤i)∧(0≤sndZ (X i)∧sndZ (X i)≤i):=by
 have ht:=(stopZ_ok ((outS_ok h).2 i hi)).1
 rw [shL_len] at ht
 refine⟨ht,?_⟩
 unfold zbq at ht
 simp only [decide_eq_true_eq] at ht
 obtain⟨a,b,c⟩:=ht
 refine⟨by omega,?_⟩
 unfold sndZ
 split
 ·rename_i h6
  have:=c h6
  omega
 ·omega
theorem outS_few {X:Nat→Nd} {t0:Tri} {n:Nat} (h:outS X t0 n=none):1≤n∧n≤8:=by
 unfold outS at h
 split at h
 ·cases h
 ·split at h
  ·cases h
  ·rename_i hn
   split at h
   ·cases h
   ·rename_i hm;omega
end CGraph
end
section
namespace CGraph
open Plain CSat CFix CShape CTensor CConv CKind
def rowI (F:Nat→Int) (n:Nat):List Value:=(List.range n).map fun k=>.int .i64 (F k)
theorem rowI_at (F:Nat→Int) {n k:Nat} (h:k < n):(rowI F n)[k]?=some (.int .i64 (F k)):=by simp [rowI,h]
def FewPost (n:Nat) (w:World) (e:Ending) (w':World):Prop:=∃ b:Bool,e=.returned (.bool b)∧(b=true→n≤12)∧Below w.heap.size w w'
theorem few_to (X:Nat→Nd) (n c:Nat) (A:Option Addr) (w:World) (hA:NodesAt w w.heap.size A n X) :
  Calls Tryd.prog 17 #[.slice A n c,.agg #[.int .i64 0,.int .i64 0,.int .i64 0,.slice none 0 0]] w (FewPost n w):=by
 have HA:=hid hA
 have HB0:=hid ((Below.refl w.heap.size w).alloc (le_refl _) (.cells #[.int .i64 0,.int .i64 0,.int .i64 0,.slice none 0 0] 67))
 have q3:(w.alloc (.cells #[.int .i64 0,.int .i64 0,.int .i64 0,.slice none 0 0] 67)).cell? ⟨w.heap.size,3,none⟩=some (.slice none 0 0):=by rw [Kit.zak];rfl
 clear hA
 go_enter Tryd.func17,Tryd.ntmps17
 go_upto_region 1 with fail
 generalize w.alloc (.cells #[.int .i64 0,.int .i64 0,.int .i64 0,.slice none 0 0] 67)=W0 at HB0 q3 ⊢
 by_cases h:n≤12
 ·have h2:¬ (n:Int) > 12:=by omega
  go_wp2_with fail
  go_loop [5] (fun u=>∃ i:Nat,i≤n∧u=.int .i64 i) (fun u=>n - (intOf u).toNat)
  case atStart=>exact⟨0,Nat.zero_le _,rfl⟩
  case round =>
   obtain⟨i,hi,rfl⟩:=hrel
   by_cases hlt:i < n
   ·obtain⟨ba,oa,rfl,hba,hra⟩:=(HA.out.below HB0.out) i hlt
    have i1:(i:Int) < (n:Int):=by omega
    have ib:(0:Int)≤(i:Int):=by omega
    have c9:=hra 9 (.slice (X i).WA (X i).nW (X i).cW) rfl
    have c10:=hra 10 (.slice (X i).BA (X i).nB (X i).cB) rfl
    clear hra hba
    generalize X i=x at *
    by_cases a1:(x.nW:Int) > 1000
    ·go_wp2_with fail
     go_ret
     exact⟨false,rfl,fun h=>(nomatch h),HB0.out⟩
    ·by_cases a2:(x.nB:Int) > 100
     ·go_wp2_with fail
      go_ret
      exact⟨false,rfl,fun h=>(nomatch h),HB0.out⟩
     ·go_wp2_with fail
      go_round
      case rel=>exact⟨i+1,by omega,by go_num⟩
      case measure=>simp [intOf];omega
   ·obtain rfl:i=n:=by omega
    go_wp2_with fail
    go_ret
    exact⟨true,rfl,fun _=>h,HB0.out⟩
 ·have h2:(n:Int) > 12:=by omega
  go_wp2_with fail
  go_ret
  exact⟨false,rfl,fun h=>(nomatch h),HB0.out⟩
end CGraph
end
section
namespace CKind
open Go Go.ChangeShapes Go.WideShapes Go.ChangeAt Go.RowKit Go.Deep Go.WideElems
open Plain CSat CFix CShape CTensor CConv
theorem gVar : Tryd.prog.globalNamed "stepwell/kinds.names" = some 0 := by kernel_rfl
theorem tVar:(Tryd.prog.globals[0]?).map (·.type)=some 121:=by kernel_rfl
def namesZ:List (List UInt8):=[[],[99,111,110,118],[100,101,112,116,104],[100,101,110,115,101],[109,97,120,112,111,111,108],[97,118,103,112,111,111,108],[106,111,105,110],[97,99,116],[112,97,100],[102,108,97,116]]
theorem namesZ_at:∀ n:Nat,n < 10→namesZ[n]?=some (kname n).data.toList:=by decide +kernel
theorem of_laid {W : World} (h : laidMetH Tryd.prog [("stepwell/kinds.names", Rows.laid_stepwell_kinds_names)] W) : zav W := by
 rw [MakeChecks.laidMetH_plain _ _ _ (by kernel_rfl)] at h
 obtain⟨ps,⟨g0,t0,cs0,f0,p0,q0,hg0,ht0,hv0,hd0,_⟩,_,_⟩:=h
 obtain rfl:=Option.some.inj (gVar.symm.trans hg0)
 obtain rfl:=Option.some.inj (tVar.symm.trans ht0)
 obtain⟨xs,m1,rfl,hx1,hlen,hn3,hel⟩:=DataW.trod_array Tryd.underlying121 hd0
 have c1:Tryd.prog.cellsOf 9=1:=by kernel_rfl
 intro n hn
 rw [World.var?_cell hg0 hv0 n]
 have hi:=hel n hn
 rw [c1] at hi
 have hxs:xs.map (·.1)=namesZ.map fun z=>.lit (.string z):=by
  have:=congrArg Prod.fst hx1
  simp only [Rows.laid_stepwell_kinds_names,DataW.agg.injEq] at this
  exact this.symm
 have hxn:(xs.map (·.1))[n]?=some (.lit (.string (kname n).data.toList)):=by
  rw [hxs,List.getElem?_map,namesZ_at n hn];rfl
 rw [List.getElem?_map] at hxn
 obtain⟨x,hx,hx2⟩:=Option.map_eq_some_iff.1 hxn
 rw [hx] at hi
 obtain⟨k,e1,e2,_⟩:=DataW.trod_string Tryd.underlying9 hi
 have hk:k=kname n:=by
  rw [e2] at hx2
  simp only [DataW.lit.injEq,Lit.string.injEq] at hx2
  exact ByteArray.ext (Array.toList_inj.1 hx2)
 subst hk
 have h0:=congrArg (fun l:List Value=>l[0]?) e1
 simpa using h0
end CKind
end
end Go.Proofs.YtjhlkmnpfibgaaaDoor
