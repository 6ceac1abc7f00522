/- -/
import Derived.RangeFuncBox
import Derived.Test.YtjhlkmnpfibgaaaDoorGT44
import Derived.Test.YtjhlkmnpfibgaaaDoorGT45
open Go.Lib (hid)
open Nat (le_refl lt_of_succ_lt lt_succ_self)
set_option linter.unusedVariables false
set_option linter.unusedSimpArgs false
set_option maxRecDepth 100000
set_option maxHeartbeats 16000000
namespace Go.Proofs.YtjhlkmnpfibgaaaDoor
namespace CConv
end CConv
namespace CDense
end CDense
namespace CSat
end CSat
namespace CTensor
end CTensor
open Go Go.ChangeShapes Go.WideShapes Go.ChangeAt Go.RowKit Go.Deep
section
namespace CCost
open Plain CSat CFix CShape CTensor CConv CKind CGraph CDense CBund
theorem node_one (w:World):NodesAt (w.alloc (.cells #[.int .i64 9,.int .i64 0,.int .i64 0,.int .i64 0,.int .i64 0,.int .i64 0,.int .i64 0,.int .i8 0,.int .i8 0,.slice none 0 0,.slice none 0 0,.int .i32 0,.int .i64 0,.int .i8 0,.int .i32 0,.int .i64 0,.int .i8 0,.int .i8 0,.int .i8 0] 35)) (w.alloc (.cells #[.int .i64 9,.int .i64 0,.int .i64 0,.int .i64 0,.int .i64 0,.int .i64 0,.int .i64 0,.int .i8 0,.int .i8 0,.slice none 0 0,.slice none 0 0,.int .i32 0,.int .i64 0,.int .i8 0,.int .i32 0,.int .i64 0,.int .i8 0,.int .i8 0,.int .i8 0] 35)).heap.size (some ⟨w.heap.size,0,none⟩) 1 (fun _=>nd9):=by
 intro j hj
 refine⟨w.heap.size,0,rfl,by simp,fun q v hq=>?_⟩
 rw [Kit.zak]
 have hq2:q < 19:=(List.getElem?_eq_some_iff.1 hq).1
 rw [← hq]
 match j,hj,q,hq2 with
 | 0,_,0,_=>rfl
 | 0,_,1,_=>rfl
 | 0,_,2,_=>rfl
 | 0,_,3,_=>rfl
 | 0,_,4,_=>rfl
 | 0,_,5,_=>rfl
 | 0,_,6,_=>rfl
 | 0,_,7,_=>rfl
 | 0,_,8,_=>rfl
 | 0,_,9,_=>rfl
 | 0,_,10,_=>rfl
 | 0,_,11,_=>rfl
 | 0,_,12,_=>rfl
 | 0,_,13,_=>rfl
 | 0,_,14,_=>rfl
 | 0,_,15,_=>rfl
 | 0,_,16,_=>rfl
 | 0,_,17,_=>rfl
 | 0,_,18,_=>rfl
theorem nd9_small:nd9.Small:=⟨⟨by decide,by decide⟩,⟨by decide,by decide⟩,⟨by decide,by decide⟩,⟨by decide,by decide⟩⟩
def bk9 (A:Option Addr):Bk:=⟨A,1,1,fun _=>nd9,false,⟨none,0,0,none,0,0,0⟩⟩
theorem bk9_out:outS (fun _=>nd9) (1,2,3) 1=none:=by decide +kernel
theorem bk9_cost:blkZ (fun _=>nd9) (1,2,3) 1 false 2=7:=by decide +kernel
theorem known31 (w:World) (hT:zav w):Calls Tryd.prog 7 #[] w fun e w'=>e=.returned (.bool true)∧Below w.heap.size w w':=by
 have HB0:=hid ((Below.refl w.heap.size w).alloc (le_refl _) (.cells #[.int .i64 9,.int .i64 0,.int .i64 0,.int .i64 0,.int .i64 0,.int .i64 0,.int .i64 0,.int .i8 0,.int .i8 0,.slice none 0 0,.slice none 0 0,.int .i32 0,.int .i64 0,.int .i8 0,.int .i32 0,.int .i64 0,.int .i8 0,.int .i8 0,.int .i8 0] 35))
 have CB:=hid (cblock_to (bk9 (some ⟨w.heap.size,0,none⟩)) (1,2,3) 2 (show (1:Nat)≤50 by decide) _ (hT.grown HB0.out) (fun _ _=>nd9_small) (node_one w))
 go_enter Tryd.func7,Tryd.ntmps7
 go_wp2_with (first
  | (go_at_call 8
     refine CB.out.mono ?_
     rintro e w1 ⟨hpost,hb⟩
     have HB1:=hid (HB0.out.trans (hb.mono HB0.out.size))
     have hp:e=.returned (.tuple #[.int .i64 7,.int .i64 0]):=by
      rcases hpost with ⟨k,z,hs, -⟩ | ⟨-,h⟩
      ·have h2:outS (fun _=>nd9) (1,2,3) 1=some (k,z):=hs
       rw [bk9_out] at h2
       cases h2
      ·rw [h]
       exact congrArg (fun z=>Ending.returned (.tuple #[.int .i64 z,.int .i64 0])) bk9_cost
     subst hp
     clear hpost hb CB))
 go_ret
 exact⟨rfl,HB1.out⟩
/-! ### what a block costs, in one form -/
def cZ (X:Nat→Nd) (t0:Tri) (n:Nat) (ex:Bool) (cl:Int):Int:=match outS X t0 n with | some _=>0 | none=>blkZ X t0 n ex cl
def oT (X:Nat→Nd) (t0:Tri) (n:Nat):Tri:=match outS X t0 n with | some _=>(0,0,0) | none=>outT X t0 n
theorem cst_view {X:Nat→Nd} {t0:Tri} {n:Nat} {ex:Bool} {cl:Int} {w w':World} {e:Ending} (h:CstPost X t0 n ex cl w e w'):e=.returned (.tuple #[.int .i64 (cZ X t0 n ex cl),.int .i64 (outZ X t0 n)])∧Below w.heap.size w w':=by
 obtain⟨⟨k,z,hs,rfl⟩ | ⟨hs,rfl⟩,hb⟩:=h
 ·exact⟨by unfold cZ outZ;rw [hs],hb⟩
 ·exact⟨by unfold cZ outZ;rw [hs],hb⟩
theorem out_view {X:Nat→Nd} {t0:Tri} {n:Nat} {w w':World} {e:Ending} (h:OutPost X t0 n w e w'):e=.returned (.tuple #[.agg #[.int .i64 (oT X t0 n).1,.int .i64 (oT X t0 n).2.1,.int .i64 (oT X t0 n).2.2],.int .i64 (outZ X t0 n)])∧Below w.heap.size w w':=by
 obtain⟨⟨k,z,hs,rfl⟩ | ⟨hs,rfl⟩,hb⟩:=h
 ·exact⟨by unfold oT outZ;rw [hs],hb⟩
 ·exact⟨by unfold oT outZ;rw [hs],hb⟩
theorem blk_view {X:Nat→Nd} {t0:Tri} {n:Nat} {ex:Bool} {cl:Int} {w w':World} {e:Ending} (h:BlkPost X t0 n ex cl w e w'):e=.returned (.tuple #[.int .i64 (cZ X t0 n ex cl),.agg #[.int .i64 (oT X t0 n).1,.int .i64 (oT X t0 n).2.1,.int .i64 (oT X t0 n).2.2],.int .i64 (outZ X t0 n)])∧Below w.heap.size w w':=by
 obtain⟨⟨k,z,hs,rfl⟩ | ⟨hs,rfl⟩,hb⟩:=h
 ·exact⟨by unfold cZ oT outZ;rw [hs],hb⟩
 ·exact⟨by unfold cZ oT outZ;rw [hs],hb⟩
def BkAt (B:Nat) (b:Bk) (w:World):Prop:=w.cell? ⟨B,0,none⟩=some (.slice b.A b.n b.c)∧w.cell? ⟨B,1,none⟩=some (.bool b.ex)∧w.cell? ⟨B,2,none⟩=some (.slice b.hd.WA b.hd.nW b.hd.cW)∧w.cell? ⟨B,3,none⟩=some (.slice b.hd.BA b.hd.nB b.hd.cB)∧w.cell? ⟨B,4,none⟩=some (.int .i32 b.hd.D)
theorem BkAt.new (b:Bk) (T:TypeId) (w:World):BkAt w.heap.size b (w.alloc (.cells b.val.toArray T)):=⟨Kit.zak _ _ _ _,Kit.zak _ _ _ _,Kit.zak _ _ _ _,Kit.zak _ _ _ _,Kit.zak _ _ _ _⟩
theorem BkAt.below {B B':Nat} {b:Bk} {w w':World} (h:BkAt B b w) (hB:B < B') (hb:Below B' w w'):BkAt B b w' :=
 ⟨(hb.cell (p:=⟨B,0,none⟩) hB).trans h.1,(hb.cell (p:=⟨B,1,none⟩) hB).trans h.2.1,(hb.cell (p:=⟨B,2,none⟩) hB).trans h.2.2.1,(hb.cell (p:=⟨B,3,none⟩) hB).trans h.2.2.2.1,(hb.cell (p:=⟨B,4,none⟩) hB).trans h.2.2.2.2⟩
def inT (m:Md) (t0:Tri):Nat→Tri
 | 0=>t0
 | k+1=>outT (m.K k).X (inT m t0 k) (m.K k).n
def mdS (m:Md) (t0:Tri):Nat→Int
 | 0=>0
 | k+1=>if mdS m t0 k≠0 then mdS m t0 k else outZ (m.K k).X (inT m t0 k) (m.K k).n
def bcZ (m:Md) (t0:Tri) (cl:Int) (k:Nat):Int:=blkZ (m.K k).X (inT m t0 k) (m.K k).n (m.K k).ex cl
def mdT0 (u:Bu):Tri:=(u.H,u.W,u.C)
def buS (u:Bu):Nat→Int
 | 0=>0
 | i+1=>if buS u i≠0 then buS u i else mdS (u.M i) (mdT0 u) (u.M i).n
theorem mdS_end {m:Md} {t0:Tri} {k n:Nat} (hk:k < n) (h:mdS m t0 k=0) (hz:outZ (m.K k).X (inT m t0 k) (m.K k).n≠0):mdS m t0 n=outZ (m.K k).X (inT m t0 k) (m.K k).n:=by
 obtain⟨d,rfl⟩:∃ d,n=k+1+d:=⟨n - (k+1),by omega⟩
 clear hk
 induction d with
 | zero=>simp [mdS,h]
 | succ d ih=>rw [show k+1+(d+1)=(k+1+d)+1 by omega,mdS,if_pos (by rw [ih];exact hz),ih]
theorem mdS_go {m:Md} {t0:Tri} {k:Nat} (h:mdS m t0 k=0) (hz:outZ (m.K k).X (inT m t0 k) (m.K k).n=0):mdS m t0 (k+1)=0:=by simp [mdS,h,hz]
theorem buS_end {u:Bu} {i n:Nat} (hi:i < n) (h:buS u i=0) (hz:mdS (u.M i) (mdT0 u) (u.M i).n≠0):buS u n=mdS (u.M i) (mdT0 u) (u.M i).n:=by
 obtain⟨d,rfl⟩:∃ d,n=i+1+d:=⟨n - (i+1),by omega⟩
 clear hi
 induction d with
 | zero=>simp [buS,h]
 | succ d ih=>rw [show i+1+(d+1)=(i+1+d)+1 by omega,buS,if_pos (by rw [ih];exact hz),ih]
theorem buS_go {u:Bu} {i:Nat} (h:buS u i=0) (hz:mdS (u.M i) (mdT0 u) (u.M i).n=0):buS u (i+1)=0:=by simp [buS,h,hz]
theorem outZ_nz {X:Nat→Nd} {t0:Tri} {n:Nat} (h:outZ X t0 n=0):outS X t0 n=none:=by
 unfold outZ at h
 cases hs:outS X t0 n with
 | none=>rfl
 | some r=>rw [hs] at h;exact absurd h (outS_nzC (k:=r.1) hs)
theorem fine_c {X:Nat→Nd} {t0:Tri} {n:Nat} (h:outZ X t0 n=0) (ex:Bool) (cl:Int):cZ X t0 n ex cl=blkZ X t0 n ex cl:=by unfold cZ;rw [outZ_nz h]
theorem fine_o {X:Nat→Nd} {t0:Tri} {n:Nat} (h:outZ X t0 n=0):oT X t0 n=outT X t0 n:=by unfold oT;rw [outZ_nz h]
theorem rowI_succ (F:Nat→Int) (n:Nat):rowI F (n+1)=rowI F n ++ [.int .i64 (F n)]:=by simp [rowI,List.range_succ]
def vL (V:Nat→Value) (n:Nat):List Value:=(List.range n).map V
theorem vL_len (V:Nat→Value) (n:Nat):(vL V n).length=n:=by simp [vL]
theorem vL_succ (V:Nat→Value) (n:Nat):vL V (n+1)=vL V n ++ [V n]:=by simp [vL,List.range_succ]
theorem vL_at (V:Nat→Value) {n k:Nat} (h:k < n):(vL V n)[k]?=some (V k):=by simp [vL,h]
theorem vL_congr {V U:Nat→Value} {n:Nat} (h:∀ k,k < n→V k=U k):vL V n=vL U n:=List.map_congr_left fun k hk=>h k (by simpa using hk)
theorem zbp {w:World} {base base' s s' n n':Nat} {e e':TypeId} {v v':Value} {xs xs':List Value} (h:w.ownsRow base e s v n xs) (h':w.ownsRow base' e' s' v' n' xs') (hne:e≠e'):v.ownBlock=none∨v.ownBlock≠v'.ownBlock:=by
 rcases h.2 with ⟨rfl, -⟩ | ⟨g,cap,cur,rfl, -,hh, -⟩
 ·exact .inl rfl
 ·refine .inr fun heq=>?_
  rcases h'.2 with ⟨rfl, -⟩ | ⟨g',cap',cur',rfl, -,hh', -⟩
  ·cases heq
  ·have hg:g=g':=Option.some.inj heq
   subst hg
   rw [hh] at hh'
   simp only [Option.some.injEq,Obj.cells.injEq] at hh'
   exact hne hh'.2.1
theorem zbc (W:World) (b j:Nat) (v:Value):W.grownBy (W.setCell ⟨b,j,none⟩ v) (some b) :=
 ⟨rfl,rfl,rfl,(KeepsWalks.setCell W _ v).size,fun k _ hk=>Below.heap_setCell _ _ _ k (fun e=>hk (by rw [e]))⟩
theorem own_set3 {w:World} {base s n B:Nat} {e:TypeId} {v:Value} {xs:List Value} (h:w.ownsRow base e s v n xs) (hB:B < base) (a b c:Value):(((w.setCell ⟨B,0,none⟩ a).setCell ⟨B,1,none⟩ b).setCell ⟨B,2,none⟩ c).ownsRow base e s v n xs:=by
 have hne:v.ownBlock=none∨v.ownBlock≠some B:=.inr fun e=>by have:=Kit.zan h B e;omega
 exact ((h.kept (grownBy_setCell' _ _ _) hne).kept (zbc _ _ _ _) hne).kept (zbc _ _ _ _) hne
def InAt (B:Nat) (t:Tri) (w:World):Prop:=TriAt B t w∧w.frozen? ⟨B,0,none⟩=false∧w.frozen? ⟨B,1,none⟩=false∧w.frozen? ⟨B,2,none⟩=false
theorem InAt.new (t:Tri) (T:TypeId) (w:World):InAt w.heap.size t (w.alloc (.cells #[.int .i64 t.1,.int .i64 t.2.1,.int .i64 t.2.2] T)):=⟨TriAt.new t T w,World.frozen?_alloc_at _ _ _ _ rfl,World.frozen?_alloc_at _ _ _ _ rfl,World.frozen?_alloc_at _ _ _ _ rfl⟩
theorem InAt.below {B B':Nat} {t:Tri} {w w':World} (h:InAt B t w) (hB:B < B') (hb:Below B' w w'):InAt B t w' :=
 ⟨h.1.below hB hb,(hb.frozen (p:=⟨B,0,none⟩) hB).trans h.2.1,(hb.frozen (p:=⟨B,1,none⟩) hB).trans h.2.2.1,(hb.frozen (p:=⟨B,2,none⟩) hB).trans h.2.2.2⟩
theorem InAt.set {B:Nat} {t:Tri} {w:World} (h:InAt B t w) (s:Tri):InAt B s (((w.setCell ⟨B,0,none⟩ (.int .i64 s.1)).setCell ⟨B,1,none⟩ (.int .i64 s.2.1)).setCell ⟨B,2,none⟩ (.int .i64 s.2.2)):=by
 obtain⟨⟨h0,h1,h2⟩,f0,f1,f2⟩:=h
 exact⟨⟨by go_cell,by go_cell,by go_cell⟩,by go_cell,by go_cell,by go_cell⟩
def UAt (B:Nat) (u:Bu) (w:World):Prop:=w.cell? ⟨B,0,none⟩=some (.int .i64 u.H)∧w.cell? ⟨B,1,none⟩=some (.int .i64 u.W)∧w.cell? ⟨B,2,none⟩=some (.int .i64 u.C)∧w.cell? ⟨B,3,none⟩=some (.int .i64 u.cl)∧w.cell? ⟨B,4,none⟩=some (.slice u.A u.n u.c)
theorem UAt.new (u:Bu) (T:TypeId) (w:World):UAt w.heap.size u (w.alloc (.cells u.val.toArray T)):=⟨Kit.zak _ _ _ _,Kit.zak _ _ _ _,Kit.zak _ _ _ _,Kit.zak _ _ _ _,Kit.zak _ _ _ _⟩
theorem UAt.below {B B':Nat} {u:Bu} {w w':World} (h:UAt B u w) (hB:B < B') (hb:Below B' w w'):UAt B u w' :=
 ⟨(hb.cell (p:=⟨B,0,none⟩) hB).trans h.1,(hb.cell (p:=⟨B,1,none⟩) hB).trans h.2.1,(hb.cell (p:=⟨B,2,none⟩) hB).trans h.2.2.1,(hb.cell (p:=⟨B,3,none⟩) hB).trans h.2.2.2.1,(hb.cell (p:=⟨B,4,none⟩) hB).trans h.2.2.2.2⟩
def TabPost (u:Bu) (w:World) (e:Ending) (w':World):Prop :=
 ((buS u u.n≠0∧e=.returned (.tuple #[.slice none 0 0,.int .i64 (buS u u.n)])) ∨
   (buS u u.n=0∧∃ (A:Option Addr) (c:Nat) (V:Nat→Value),e=.returned (.tuple #[.slice A u.n c,.int .i64 0])∧Kit.Rd w' w'.heap.size A (vL V u.n) ∧
     ∀ i,i < u.n→w'.ownsRow w.heap.size 3 1 (V i) (u.M i).n (rowI (bcZ (u.M i) (mdT0 u) u.cl) (u.M i).n)))∧Below w.heap.size w w'
theorem info_int8c:(Tryd.prog.info? 3).map (fun i=>(i.zero,i.size,i.bytes))=some (some (.int .i64 0),1,8):=by kernel_rfl
theorem info_rows:(Tryd.prog.info? 60).map (fun i=>(i.zero,i.size,i.bytes))=some (some (.slice none 0 0),1,24):=by kernel_rfl
theorem blk_cells {w:World} {B:Nat} {m:Md} (h:MdOk w B m) {k:Nat} (hk:k < m.n):∃ bb ob,m.A=some ⟨bb,ob,none⟩∧bb < B∧w.cell? ⟨bb,ob+k * 5,none⟩=some (.slice (m.K k).A (m.K k).n (m.K k).c)∧w.cell? ⟨bb,ob+k * 5+1,none⟩=some (.bool (m.K k).ex)∧w.cell? ⟨bb,ob+k * 5+2,none⟩=some (.slice (m.K k).hd.WA (m.K k).hd.nW (m.K k).hd.cW)∧w.cell? ⟨bb,ob+k * 5+3,none⟩=some (.slice (m.K k).hd.BA (m.K k).hd.nB (m.K k).hd.cB)∧w.cell? ⟨bb,ob+k * 5+4,none⟩=some (.int .i32 (m.K k).hd.D):=by
 obtain⟨bb,ob,e,hb,hr⟩:=h.blocks k hk
 exact⟨bb,ob,e,hb,hr 0 _ rfl,hr 1 _ rfl,hr 2 _ rfl,hr 3 _ rfl,hr 4 _ rfl⟩
theorem mod_cells {w:World} {B:Nat} {u:Bu} (h:BuOk w B u) {i:Nat} (hi:i < u.n):∃ bm om,u.A=some ⟨bm,om,none⟩∧bm < B∧w.cell? ⟨bm,om+i,none⟩=some (.slice (u.M i).A (u.M i).n (u.M i).c):=by
 obtain⟨bm,om,e,hb,hr⟩:=h.models i hi
 have:=hr 0 _ rfl
 exact⟨bm,om,e,hb,by simpa using this⟩
end CCost
end
end Go.Proofs.YtjhlkmnpfibgaaaDoor
