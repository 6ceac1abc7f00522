/- -/
import Derived.Test.YtoffcaldhojjoaaDoorGVP9
open Go.Lib (hid)
open Nat (le_refl lt_of_succ_lt lt_succ_self)
set_option linter.unusedVariables false
set_option linter.unusedSimpArgs false
set_option maxRecDepth 100000
set_option maxHeartbeats 16000000
namespace Go.Proofs.YtoffcaldhojjoaaDoor
namespace CConv
end CConv
namespace CFix
end CFix
namespace CSat
end CSat
namespace CShape
end CShape
namespace CTensor
end CTensor
open Go Go.ChangeShapes Go.WideShapes Go.ChangeAt Go.RowKit
section
namespace CSpan
open Plain CSat CFix CShape CTensor CConv
def i64L (G:Nat→Int) (n:Nat):List Value:=(List.range n).map (fun k=>.int .i64 (G k))
theorem i64L_at (G:Nat→Int) {n k:Nat} (h:k < n):(i64L G n)[k]?=some (.int .i64 (G k)):=by
 unfold i64L
 rw [List.getElem?_map,List.getElem?_range h]
 rfl
theorem i64L_len (G:Nat→Int) (n:Nat):(i64L G n).length=n:=by simp [i64L]
theorem rd64 {w:World} {B:Nat} {A:Option Addr} {G:Nat→Int} {n:Nat} (h:Kit.Rd w B A (i64L G n)) (hn:0 < n) :
  ∃ b o,A=some ⟨b,o,none⟩∧b < B∧∀ k,k < n→w.cell? ⟨b,o+k,none⟩=some (.int .i64 (G k)):=by
 obtain⟨b,o,e,hb,hc⟩:=h.plain (by rw [i64L_len];exact hn)
 exact⟨b,o,e,hb,fun k hk=>hc k _ (i64L_at G hk)⟩
def mnA (a:Int) (G:Nat→Int):Nat→Int
 | 0=>a
 | k+1=>min (mnA a G k) (G k)
def mxA (a:Int) (G:Nat→Int):Nat→Int
 | 0=>a
 | k+1=>max (mxA a G k) (G k)
def RBox (g:Nat) (a b:Int) (w:World):Prop:=w.cell? ⟨g,0,none⟩=some (.int .i64 a)∧w.cell? ⟨g,1,none⟩=some (.int .i64 b)∧w.frozen? ⟨g,0,none⟩=false∧w.frozen? ⟨g,1,none⟩=false
theorem RBox.below {g B:Nat} {a b:Int} {w w':World} (h:RBox g a b w) (hB:g < B) (hb:Below B w w'):RBox g a b w' :=
 ⟨(hb.cell (p:=⟨g,0,none⟩) hB).trans h.1,(hb.cell (p:=⟨g,1,none⟩) hB).trans h.2.1,(hb.frozen (p:=⟨g,0,none⟩) hB).trans h.2.2.1,(hb.frozen (p:=⟨g,1,none⟩) hB).trans h.2.2.2⟩
theorem RBox.new (a b:Int) (w:World):RBox w.heap.size a b (w.alloc (.cells #[.int .i64 a,.int .i64 b] 139)) :=
 ⟨Kit.zac _ _ _ _,Kit.zac _ _ _ _,World.frozen?_alloc_at _ _ _ _ rfl,World.frozen?_alloc_at _ _ _ _ rfl⟩
theorem RBox.set2 {g:Nat} {a b x y:Int} {w:World} (h:RBox g a b w):RBox g x y ((w.setCell ⟨g,0,none⟩ (.int .i64 x)).setCell ⟨g,1,none⟩ (.int .i64 y)):=by
 obtain⟨h0,h1,h2,h3⟩:=h
 have k:∀ (w:World) (i j:Nat) (u:Value),i≠j→(w.setCell ⟨g,j,none⟩ u).cell? ⟨g,i,none⟩=w.cell? ⟨g,i,none⟩:=fun w i j u hne=>World.cell?_setCell_other _ _ _ _ (fun e=>by injection e;omega)
 refine⟨?_,?_,?_,?_⟩
 ·rw [k _ _ _ _ (by omega)]
  exact World.cell?_setCell_same _ _ _ h0
 ·exact World.cell?_setCell_same _ _ _ ((k _ _ _ _ (by omega)).trans h1)
 ·rw [World.frozen?_setCell,World.frozen?_setCell];exact h2
 ·rw [World.frozen?_setCell,World.frozen?_setCell];exact h3
theorem RBox.set2o {g q:Nat} {a b:Int} {u v:Value} {w:World} (h:RBox g a b w) (hq:q≠g):RBox g a b ((w.setCell ⟨q,0,none⟩ u).setCell ⟨q,1,none⟩ v):=by
 obtain⟨h0,h1,h2,h3⟩:=h
 have k:∀ (w:World) (i j:Nat) (u:Value),(w.setCell ⟨q,j,none⟩ u).cell? ⟨g,i,none⟩=w.cell? ⟨g,i,none⟩:=fun w i j u=>World.cell?_setCell_other _ _ _ _ (fun e=>by injection e;omega)
 refine⟨?_,?_,?_,?_⟩
 ·rw [k,k];exact h0
 ·rw [k,k];exact h1
 ·rw [World.frozen?_setCell,World.frozen?_setCell];exact h2
 ·rw [World.frozen?_setCell,World.frozen?_setCell];exact h3
theorem za7 {B g:Nat} {w w':World} (h:Below B w w') (hg:B≤g) (u v:Value):Below B w ((w'.setCell ⟨g,0,none⟩ u).setCell ⟨g,1,none⟩ v) :=
 (h.setCell (p:=⟨g,0,none⟩) hg _).setCell (p:=⟨g,1,none⟩) hg _
theorem product_to (y v z R:Int) (y1 : -128≤y) (y2:y≤127) (v1 : -128≤v) (v2:v≤127) (z1 : -128≤z) (z2:z≤127) (hR:y * (v - z)=R) (w:World) :
  Calls Tryd.prog 96 #[.int .i8 y,.int .i8 v,.int .i8 z] w fun e w'=>e=.returned (.int .i64 R)∧w=w':=by
 obtain⟨p1,p2⟩:=mul_255 y1 y2 v1 v2 z1 z2
 have e1:IntKind.i64.wrap y=y:=IntWalk.i64_in _ (by omega)
 have e2:IntKind.i64.wrap v=v:=IntWalk.i64_in _ (by omega)
 have e4:IntKind.i64.wrap z=z:=IntWalk.i64_in _ (by omega)
 have e5:IntKind.i64.wrap (v - z)=v - z:=IntWalk.i64_in _ (by omega)
 have e7:IntKind.i64.wrap (y * (v - z))=R:=by rw [← hR];exact IntWalk.i64_in _ (by omega)
 clear hR p1 p2
 go_enter Tryd.func96,Tryd.ntmps96
 go_wp2_with fail
 go_ret
 exact⟨rfl,rfl⟩
theorem widened_to (a b:Int) (G:Nat→Int) (n c:Nat) (hn:n≤1000000) (A:Option Addr) (X Y:Int) (hX:mnA a G n=X) (hY:mxA b G n=Y) (w:World) (hr:Kit.Rd w w.heap.size A (i64L G n)) :
  Calls Tryd.prog 97 #[.agg #[.int .i64 a,.int .i64 b],.slice A n c] w fun e w'=>e=.returned (.agg #[.int .i64 X,.int .i64 Y])∧Below w.heap.size w w':=by
 have HX:=hid hX
 have HY:=hid hY
 have HA:=hid hr
 obtain⟨W1,hW1⟩:∃ W1,w.alloc (.cells #[.int .i64 a,.int .i64 b] 139)=W1:=⟨_,rfl⟩
 have s1:W1.heap.size=w.heap.size+1:=by rw [← hW1];simp
 have b1:Below w.heap.size w W1:=by rw [← hW1];exact (Below.refl _ _).alloc (le_refl _) _
 have r1:RBox w.heap.size a b W1:=by rw [← hW1];exact RBox.new a b w
 have b2:Below (w.heap.size+1) W1 (W1.alloc (.cells #[.int .i64 0,.int .i64 0] 139)):=(Below.refl _ _).alloc (by omega) _
 have r2:RBox (w.heap.size+1) 0 0 (W1.alloc (.cells #[.int .i64 0,.int .i64 0] 139)):=by rw [← s1];exact RBox.new 0 0 W1
 have HB:=hid (b1.trans (b2.mono (by omega)))
 have HR1:=hid (r1.below (by omega) b2)
 have HR2:=hid r2
 have HS:=hid (show w.heap.size+2≤(W1.alloc (.cells #[.int .i64 0,.int .i64 0] 139)).heap.size by simp;omega)
 subst hW1
 clear hX hY hr s1 b1 r1 b2 r2
 go_enter Tryd.func97,Tryd.ntmps97
 go_wp2_with fail
 generalize (w.alloc (.cells #[.int .i64 a,.int .i64 b] 139)).alloc (.cells #[.int .i64 0,.int .i64 0] 139)=W0 at HB HR1 HR2 HS ⊢
 go_loopw [9] (fun u wr=>∃ k:Nat,k≤n∧u=.int .i64 k∧Hid (RBox w.heap.size (mnA a G k) (mxA b G k) wr)∧Hid (RBox (w.heap.size+1) 0 0 wr)∧Hid (Below w.heap.size w wr)∧Hid (w.heap.size+2≤wr.heap.size)) (fun u _=>n - (intOf u).toNat)
 case atStart=>exact⟨0,Nat.zero_le _,rfl,HR1,HR2,HB,HS⟩
 case round =>
  obtain⟨k,hk,rfl,R1,R2,RB,RS⟩:=hrel
  clear HB HR1 HR2 HS
  by_cases hlt:k < n
  ·obtain⟨bb,o,rfl,hbb,hc⟩:=rd64 HA.out (by omega)
   have hck:wr.cell? ⟨bb,o+k,none⟩=some (.int .i64 (G k)):=(RB.out.cell (p:=⟨bb,o+k,none⟩) hbb).trans (hc k hlt)
   have hk0:(0:Int)≤(k:Int):=by omega
   have hkn:(k:Int) < (n:Int):=by omega
   have st1:mnA a G (k+1)=min (mnA a G k) (G k):=rfl
   have st2:mxA b G (k+1)=max (mxA b G k) (G k):=rfl
   rw [← min_ite] at st1
   rw [← max_ite] at st2
   obtain⟨c0,c1,f0,f1⟩:=R1.out
   have m1:(if G k < mnA a G k then G k else mnA a G k)=mnA a G (k+1):=st1.symm
   have m2:(if mxA b G k < G k then G k else mxA b G k)=mxA b G (k+1):=st2.symm
   clear hc st1 st2
   obtain⟨P1,hP1⟩:∃ P,mnA a G k=P:=⟨_,rfl⟩
   obtain⟨Q1,hQ1⟩:∃ P,mxA b G k=P:=⟨_,rfl⟩
   obtain⟨P2,hP2⟩:∃ P,mnA a G (k+1)=P:=⟨_,rfl⟩
   obtain⟨Q2,hQ2⟩:∃ P,mxA b G (k+1)=P:=⟨_,rfl⟩
   rw [hP1] at m1 c0
   rw [hQ1] at m2 c1
   rw [hP2] at m1
   rw [hQ2] at m2
   have HP2:=hid hP2
   have HQ2:=hid hQ2
   clear hP1 hQ1 hP2 hQ2
   generalize G k=x at hck m1 m2
   go_wp2_with fail
   go_roundw
   case rel =>
    refine⟨k+1,by omega,by go_num,?_,?_,?_,?_⟩
    ·rw [HP2.out,HQ2.out];exact hid R1.out.set2
    ·exact hid (R2.out.set2o (by omega))
    ·exact hid (za7 RB.out (le_refl _) _ _)
    ·exact hid (by have:=RS.out;simpa using this)
   case measure=>simp [intOf];omega
  ·obtain rfl:k=n:=by omega
   rw [HX.out,HY.out] at R1
   obtain⟨c0,c1,f0,f1⟩:=R1.out
   obtain⟨d0,d1,g0,g1⟩:=R2.out
   go_wp2_with fail
   refine bodyPost_ret (Kit.zaq rfl _ _ (w.heap.size+1) 0 [.int .i64 X,.int .i64 Y] _ rfl (Kit.zam (by go_cell) (by go_cell)) Tryd.underlying139 rfl (by kernel_rfl)) rfl ?_
   exact⟨rfl,za7 RB.out (by omega) _ _⟩
theorem around_to (a:Int) (G:Nat→Int) (n c:Nat) (hn:n≤1000000) (A:Option Addr) (X Y:Int) (hX:mnA a G n=X) (hY:mxA a G n=Y) (w:World) (hr:Kit.Rd w w.heap.size A (i64L G n)) :
  Calls Tryd.prog 95 #[.int .i64 a,.slice A n c] w fun e w'=>e=.returned (.agg #[.int .i64 X,.int .i64 Y])∧Below w.heap.size w w':=by
 have hal:Below w.heap.size w (w.alloc (.cells #[.int .i64 0,.int .i64 0] 139)):=(Below.refl _ _).alloc (le_refl _) _
 have h:=widened_to a a G n c hn A X Y hX hY (w.alloc (.cells #[.int .i64 0,.int .i64 0] 139)) ((hr.below hal).more (by simp))
 have hrb:=RBox.new 0 0 w
 have hsz:(w.alloc (.cells #[.int .i64 0,.int .i64 0] 139)).heap.size=w.heap.size+1:=by simp
 rw [hsz] at h
 have HRB:=hid hrb
 have H:=hid h
 have HAL:=hid hal
 clear h hal hX hY hr hrb hsz
 go_enter Tryd.func95,Tryd.ntmps95
 go_wp2_with (go_at_call 97;(refine H.out.mono ?_);rintro e w1 ⟨rfl,hb⟩;(obtain⟨c0,c1,f0,f1⟩:=HRB.out.below (lt_succ_self _) hb))
 refine bodyPost_ret (Kit.zaq rfl _ _ w.heap.size 0 [.int .i64 X,.int .i64 Y] _ rfl (Kit.zam (by go_cell) (by go_cell)) Tryd.underlying139 rfl (by kernel_rfl)) rfl ?_
 exact⟨rfl,za7 (HAL.out.trans (hb.mono (Nat.le_succ _))) (le_refl _) _ _⟩
theorem around_nil (a:Int) (w:World):Calls Tryd.prog 95 #[.int .i64 a,.slice none 0 0] w fun e w'=>e=.returned (.agg #[.int .i64 a,.int .i64 a])∧Below w.heap.size w w' :=
 around_to a (fun _=>0) 0 0 (by omega) none a a rfl rfl w (fun j u h=>by simp [i64L] at h)
theorem rd_one {w:World} {b:Nat} {x:Int} (hb:b < w.heap.size) (hc:w.cell? ⟨b,0,none⟩=some (.int .i64 x)):Kit.Rd w w.heap.size (some ⟨b,0,none⟩) (i64L (fun _=>x) 1):=fun j u h=>by
 rcases j with _ | j
 ·simp [i64L] at h
  subst h
  exact⟨_,rfl,hb,hc⟩
 ·simp [i64L] at h
theorem around_one (a x X Y:Int) (hX:min a x=X) (hY:max a x=Y) (b:Nat) (w:World) (hb:b < w.heap.size) (hc:w.cell? ⟨b,0,none⟩=some (.int .i64 x)) :
  Calls Tryd.prog 95 #[.int .i64 a,.slice (some ⟨b,0,none⟩) 1 1] w fun e w'=>e=.returned (.agg #[.int .i64 X,.int .i64 Y])∧Below w.heap.size w w' :=
 around_to a (fun _=>x) 1 1 (by omega) _ X Y hX hY w (rd_one hb hc)
theorem widened_one (a p x X Y:Int) (hX:min a x=X) (hY:max p x=Y) (b:Nat) (w:World) (hb:b < w.heap.size) (hc:w.cell? ⟨b,0,none⟩=some (.int .i64 x)) :
  Calls Tryd.prog 97 #[.agg #[.int .i64 a,.int .i64 p],.slice (some ⟨b,0,none⟩) 1 1] w fun e w'=>e=.returned (.agg #[.int .i64 X,.int .i64 Y])∧Below w.heap.size w w' :=
 widened_to a p (fun _=>x) 1 1 (by omega) _ X Y hX hY w (rd_one hb hc)
end CSpan
end
end Go.Proofs.YtoffcaldhojjoaaDoor
