/- -/
import Derived.RangeFuncBox
import Derived.LaidMore
import Derived.Stop.Joined
import Derived.Test.YtoffcaldhojjoaaDoorGVP39
open Go.Lib (hid)
open Nat (le_refl lt_of_succ_lt lt_succ_self)
set_option linter.unusedVariables false
set_option linter.unusedSimpArgs false
set_option maxRecDepth 100000
set_option maxHeartbeats 16000000
namespace Go.Proofs.YtoffcaldhojjoaaDoor
namespace CConv
end CConv
namespace CDense
end CDense
namespace CFix
end CFix
namespace CGraph
end CGraph
namespace CKind
end CKind
namespace CSat
end CSat
namespace CShape
end CShape
namespace CTensor
end CTensor
open Go Go.ChangeShapes Go.WideShapes Go.ChangeAt Go.RowKit Go.Deep
section
namespace CCost
open Plain CSat CFix CShape CTensor CConv CKind CGraph CDense CBund
def outT (X:Nat→Nd) (t0:Tri) (n:Nat):Tri:=(shL X t0 n).getD n tri0
def FreshT3 (B:Nat) (wd:World):Prop :=
 (wd.cell? ⟨B,0,none⟩=some (.int .i64 0)∧wd.cell? ⟨B,1,none⟩=some (.int .i64 0)∧wd.cell? ⟨B,2,none⟩=some (.int .i64 0)) ∧
 wd.frozen? ⟨B,0,none⟩=false∧wd.frozen? ⟨B,1,none⟩=false∧wd.frozen? ⟨B,2,none⟩=false
theorem FreshT3.new (T:TypeId) (w:World):FreshT3 w.heap.size (w.alloc (.cells #[.int .i64 0,.int .i64 0,.int .i64 0] T)) :=
 ⟨⟨Kit.zac _ _ _ _,Kit.zac _ _ _ _,Kit.zac _ _ _ _⟩,World.frozen?_alloc_at _ _ _ _ rfl,World.frozen?_alloc_at _ _ _ _ rfl,World.frozen?_alloc_at _ _ _ _ rfl⟩
theorem FreshT3.below {B B':Nat} {w w':World} (h:FreshT3 B w) (hB:B < B') (hb:Below B' w w'):FreshT3 B w':=by
 obtain⟨⟨h1,h2,h3⟩,h5,h6,h7⟩:=h
 exact⟨⟨(hb.cell (p:=⟨B,0,none⟩) hB).trans h1,(hb.cell (p:=⟨B,1,none⟩) hB).trans h2,(hb.cell (p:=⟨B,2,none⟩) hB).trans h3⟩,
  (hb.frozen (p:=⟨B,0,none⟩) hB).trans h5,(hb.frozen (p:=⟨B,1,none⟩) hB).trans h6,(hb.frozen (p:=⟨B,2,none⟩) hB).trans h7⟩
theorem stopAt_nzC {X:Nat→Nd} {t0:Tri} : ∀ {n:Nat} {r:Nat × Int},zbb X t0 n=some r→r.2≠0
 | 0,r,h=>by cases h
 | n+1,r,h=>by
   rw [zbb] at h
   cases hs:zbb X t0 n with
   | some q=>rw [hs] at h;cases h;exact stopAt_nzC hs
   | none =>
     rw [hs] at h
     dsimp only at h
     split at h
     ·cases h
     ·rename_i hz;cases h;exact hz
theorem outS_nzC {X:Nat→Nd} {t0:Tri} {n:Nat} {k z:Int} (h:outS X t0 n=some (k,z)):z≠0:=by
 unfold outS at h
 split at h
 ·cases h;decide
 ·split at h
  ·cases h;decide
  ·split at h
   ·cases h;decide
   ·cases hs:zbb X t0 n with
    | none=>rw [hs] at h;cases h
    | some r=>rw [hs] at h;cases h;exact stopAt_nzC hs
/-! ### what a block costs, in one form -/
def BkAt (B:Nat) (b:Bk) (w:World):Prop:=w.cell? ⟨B,0,none⟩=some (.slice b.A b.n b.c)∧w.cell? ⟨B,1,none⟩=some (.bool b.ex)∧w.cell? ⟨B,2,none⟩=some (.slice b.hd.WA b.hd.nW b.hd.cW)∧w.cell? ⟨B,3,none⟩=some (.slice b.hd.BA b.hd.nB b.hd.cB)∧w.cell? ⟨B,4,none⟩=some (.int .i32 b.hd.D)
theorem BkAt.new (b:Bk) (T:TypeId) (w:World):BkAt w.heap.size b (w.alloc (.cells b.val.toArray T)):=⟨Kit.zac _ _ _ _,Kit.zac _ _ _ _,Kit.zac _ _ _ _,Kit.zac _ _ _ _,Kit.zac _ _ _ _⟩
theorem BkAt.below {B B':Nat} {b:Bk} {w w':World} (h:BkAt B b w) (hB:B < B') (hb:Below B' w w'):BkAt B b w' :=
 ⟨(hb.cell (p:=⟨B,0,none⟩) hB).trans h.1,(hb.cell (p:=⟨B,1,none⟩) hB).trans h.2.1,(hb.cell (p:=⟨B,2,none⟩) hB).trans h.2.2.1,(hb.cell (p:=⟨B,3,none⟩) hB).trans h.2.2.2.1,(hb.cell (p:=⟨B,4,none⟩) hB).trans h.2.2.2.2⟩
def inT (m:Md) (t0:Tri):Nat→Tri
 | 0=>t0
 | k+1=>outT (m.K k).X (inT m t0 k) (m.K k).n
def mdT0 (u:Bu):Tri:=(u.H,u.W,u.C)
def InAt (B:Nat) (t:Tri) (w:World):Prop:=TriAt B t w∧w.frozen? ⟨B,0,none⟩=false∧w.frozen? ⟨B,1,none⟩=false∧w.frozen? ⟨B,2,none⟩=false
theorem InAt.new (t:Tri) (T:TypeId) (w:World):InAt w.heap.size t (w.alloc (.cells #[.int .i64 t.1,.int .i64 t.2.1,.int .i64 t.2.2] T)):=⟨TriAt.new t T w,World.frozen?_alloc_at _ _ _ _ rfl,World.frozen?_alloc_at _ _ _ _ rfl,World.frozen?_alloc_at _ _ _ _ rfl⟩
theorem InAt.below {B B':Nat} {t:Tri} {w w':World} (h:InAt B t w) (hB:B < B') (hb:Below B' w w'):InAt B t w' :=
 ⟨h.1.below hB hb,(hb.frozen (p:=⟨B,0,none⟩) hB).trans h.2.1,(hb.frozen (p:=⟨B,1,none⟩) hB).trans h.2.2.1,(hb.frozen (p:=⟨B,2,none⟩) hB).trans h.2.2.2⟩
theorem InAt.set {B:Nat} {t:Tri} {w:World} (h:InAt B t w) (s:Tri):InAt B s (((w.setCell ⟨B,0,none⟩ (.int .i64 s.1)).setCell ⟨B,1,none⟩ (.int .i64 s.2.1)).setCell ⟨B,2,none⟩ (.int .i64 s.2.2)):=by
 obtain⟨⟨h0,h1,h2⟩,f0,f1,f2⟩:=h
 exact⟨⟨by go_cell,by go_cell,by go_cell⟩,by go_cell,by go_cell,by go_cell⟩
def UAt (B:Nat) (u:Bu) (w:World):Prop:=w.cell? ⟨B,0,none⟩=some (.int .i64 u.H)∧w.cell? ⟨B,1,none⟩=some (.int .i64 u.W)∧w.cell? ⟨B,2,none⟩=some (.int .i64 u.C)∧w.cell? ⟨B,3,none⟩=some (.int .i64 u.cl)∧w.cell? ⟨B,4,none⟩=some (.slice u.A u.n u.c)
theorem UAt.new (u:Bu) (T:TypeId) (w:World):UAt w.heap.size u (w.alloc (.cells u.val.toArray T)):=⟨Kit.zac _ _ _ _,Kit.zac _ _ _ _,Kit.zac _ _ _ _,Kit.zac _ _ _ _,Kit.zac _ _ _ _⟩
theorem UAt.below {B B':Nat} {u:Bu} {w w':World} (h:UAt B u w) (hB:B < B') (hb:Below B' w w'):UAt B u w' :=
 ⟨(hb.cell (p:=⟨B,0,none⟩) hB).trans h.1,(hb.cell (p:=⟨B,1,none⟩) hB).trans h.2.1,(hb.cell (p:=⟨B,2,none⟩) hB).trans h.2.2.1,(hb.cell (p:=⟨B,3,none⟩) hB).trans h.2.2.2.1,(hb.cell (p:=⟨B,4,none⟩) hB).trans h.2.2.2.2⟩
theorem blk_cells {w:World} {B:Nat} {m:Md} (h:MdOk w B m) {k:Nat} (hk:k < m.n):∃ bb ob,m.A=some ⟨bb,ob,none⟩∧bb < B∧w.cell? ⟨bb,ob+k * 5,none⟩=some (.slice (m.K k).A (m.K k).n (m.K k).c)∧w.cell? ⟨bb,ob+k * 5+1,none⟩=some (.bool (m.K k).ex)∧w.cell? ⟨bb,ob+k * 5+2,none⟩=some (.slice (m.K k).hd.WA (m.K k).hd.nW (m.K k).hd.cW)∧w.cell? ⟨bb,ob+k * 5+3,none⟩=some (.slice (m.K k).hd.BA (m.K k).hd.nB (m.K k).hd.cB)∧w.cell? ⟨bb,ob+k * 5+4,none⟩=some (.int .i32 (m.K k).hd.D):=by
 obtain⟨bb,ob,e,hb,hr⟩:=h.blocks k hk
 exact⟨bb,ob,e,hb,hr 0 _ rfl,hr 1 _ rfl,hr 2 _ rfl,hr 3 _ rfl,hr 4 _ rfl⟩
theorem mod_cells {w:World} {B:Nat} {u:Bu} (h:BuOk w B u) {i:Nat} (hi:i < u.n):∃ bm om,u.A=some ⟨bm,om,none⟩∧bm < B∧w.cell? ⟨bm,om+i,none⟩=some (.slice (u.M i).A (u.M i).n (u.M i).c):=by
 obtain⟨bm,om,e,hb,hr⟩:=h.models i hi
 have:=hr 0 _ rfl
 exact⟨bm,om,e,hb,by simpa using this⟩
end CCost
end
section
namespace CGraph
open Plain CSat CFix CShape CTensor CConv CKind
def FewPost2 (X:Nat→Nd) (n:Nat) (w:World) (e:Ending) (w':World):Prop:=∃ b:Bool,e=.returned (.bool b)∧(b=true→n≤12∧∀ i,i < n→(X i).nW≤1000∧(X i).nB≤100)∧Below w.heap.size w w'
theorem few2_to (X:Nat→Nd) (n c:Nat) (A:Option Addr) (w:World) (hA:NodesAt w w.heap.size A n X) :
  Calls Tryd.prog 10 #[.slice A n c,.agg #[.int .i64 0,.int .i64 0,.int .i64 0,.slice none 0 0]] w (FewPost2 X n w):=by
 have HA:=hid hA
 have HB0:=hid ((Below.refl w.heap.size w).alloc (le_refl _) (.cells #[.int .i64 0,.int .i64 0,.int .i64 0,.slice none 0 0] 47))
 have q3:(w.alloc (.cells #[.int .i64 0,.int .i64 0,.int .i64 0,.slice none 0 0] 47)).cell? ⟨w.heap.size,3,none⟩=some (.slice none 0 0):=by rw [Kit.zac];rfl
 clear hA
 go_enter Tryd.func10,Tryd.ntmps10
 go_upto_region 1 with fail
 generalize w.alloc (.cells #[.int .i64 0,.int .i64 0,.int .i64 0,.slice none 0 0] 47)=W0 at HB0 q3 ⊢
 by_cases h:n≤12
 ·have h2:¬ (n:Int) > 12:=by omega
  go_wp2_with fail
  go_loop [5] (fun u=>∃ i:Nat,i≤n∧u=.int .i64 i∧Hid (∀ j,j < i→(X j).nW≤1000∧(X j).nB≤100)) (fun u=>n - (intOf u).toNat)
  case atStart=>exact⟨0,Nat.zero_le _,rfl,hid (fun j hj=>by omega)⟩
  case round =>
   obtain⟨i,hi,rfl,HI⟩:=hrel
   by_cases hlt:i < n
   ·obtain⟨ba,oa,rfl,hba,hra⟩:=(HA.out.below HB0.out) i hlt
    have i1:(i:Int) < (n:Int):=by omega
    have ib:(0:Int)≤(i:Int):=by omega
    have c9:=hra 9 (.slice (X i).WA (X i).nW (X i).cW) rfl
    have c10:=hra 10 (.slice (X i).BA (X i).nB (X i).cB) rfl
    clear hra hba
    obtain⟨x,hx⟩:∃ x,X i=x:=⟨_,rfl⟩
    rw [hx] at c9 c10
    have HXX:=hid hx
    clear hx
    by_cases a1:(x.nW:Int) > 1000
    ·go_wp2_with fail
     go_ret
     exact⟨false,rfl,fun h=>(nomatch h),HB0.out⟩
    ·by_cases a2:(x.nB:Int) > 100
     ·go_wp2_with fail
      go_ret
      exact⟨false,rfl,fun h=>(nomatch h),HB0.out⟩
     ·go_wp2_with fail
      go_round
      case rel=>exact⟨i+1,by omega,by go_num,hid (fun j hj=>by
       rcases (show j < i∨j=i by omega) with h7 | rfl
       ·exact HI.out j h7
       ·rw [HXX.out];exact⟨by omega,by omega⟩)⟩
      case measure=>simp [intOf];omega
   ·obtain rfl:i=n:=by omega
    go_wp2_with fail
    go_ret
    exact⟨true,rfl,fun _=>⟨h,HI.out⟩,HB0.out⟩
 ·have h2:(n:Int) > 12:=by omega
  go_wp2_with fail
  go_ret
  exact⟨false,rfl,fun h=>(nomatch h),HB0.out⟩
end CGraph
end
section
namespace CKind
open Go Go.ChangeShapes Go.WideShapes Go.ChangeAt Go.RowKit Go.Deep Go.WideElems
open Plain CSat CFix CShape CTensor CConv
theorem gVar : Tryd.prog.globalNamed "stepwell/kinds.names" = some 0 := by kernel_rfl
theorem tVar:(Tryd.prog.globals[0]?).map (·.type)=some 157:=by kernel_rfl
def namesZ:List (List UInt8):=[[],[99,111,110,118],[100,101,112,116,104],[100,101,110,115,101],[109,97,120,112,111,111,108],[97,118,103,112,111,111,108],[106,111,105,110],[97,99,116],[112,97,100],[102,108,97,116]]
theorem namesZ_at:∀ n:Nat,n < 10→namesZ[n]?=some (kname n).data.toList:=by decide +kernel
theorem of_laid {W : World} (h : laidMetH Tryd.prog [("stepwell/kinds.names", Rows.laid_stepwell_kinds_names)] W) : zae W := by
 rw [MakeChecks.laidMetH_plain _ _ _ (by kernel_rfl)] at h
 obtain⟨ps,⟨g0,t0,cs0,f0,p0,q0,hg0,ht0,hv0,hd0,_⟩,_,_⟩:=h
 obtain rfl:=Option.some.inj (gVar.symm.trans hg0)
 obtain rfl:=Option.some.inj (tVar.symm.trans ht0)
 obtain⟨xs,m1,rfl,hx1,hlen,hn3,hel⟩:=DataW.trod_array Tryd.underlying157 hd0
 have c1:Tryd.prog.cellsOf 9=1:=by kernel_rfl
 intro n hn
 rw [World.var?_cell hg0 hv0 n]
 have hi:=hel n hn
 rw [c1] at hi
 have hxs:xs.map (·.1)=namesZ.map fun z=>.lit (.string z):=by
  have:=congrArg Prod.fst hx1
  simp only [Rows.laid_stepwell_kinds_names,DataW.agg.injEq] at this
  exact this.symm
 have hxn:(xs.map (·.1))[n]?=some (.lit (.string (kname n).data.toList)):=by
  rw [hxs,List.getElem?_map,namesZ_at n hn];rfl
 rw [List.getElem?_map] at hxn
 obtain⟨x,hx,hx2⟩:=Option.map_eq_some_iff.1 hxn
 rw [hx] at hi
 obtain⟨k,e1,e2,_⟩:=DataW.trod_string Tryd.underlying9 hi
 have hk:k=kname n:=by
  rw [e2] at hx2
  simp only [DataW.lit.injEq,Lit.string.injEq] at hx2
  exact ByteArray.ext (Array.toList_inj.1 hx2)
 subst hk
 have h0:=congrArg (fun l:List Value=>l[0]?) e1
 simpa using h0
end CKind
end
end Go.Proofs.YtoffcaldhojjoaaDoor
