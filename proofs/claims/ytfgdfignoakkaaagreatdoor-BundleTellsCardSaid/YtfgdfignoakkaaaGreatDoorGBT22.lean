/- -/
import Derived.Test.YtfgdfignoakkaaaGreatDoorGBT21
open Go.Lib (hid)
open Nat (le_refl lt_of_succ_lt lt_succ_self)
set_option linter.unusedVariables false
set_option linter.unusedSimpArgs false
set_option maxRecDepth 100000
set_option maxHeartbeats 16000000
namespace Go.Proofs.YtfgdfignoakkaaaGreatDoor
namespace CConv
end CConv
namespace CFix
end CFix
namespace CSat
end CSat
namespace CShape
end CShape
namespace CTensor
end CTensor
open Go Go.ChangeShapes Go.WideShapes Go.ChangeAt Go.RowKit Go.Deep
section
namespace CSpan
open Go Go.ChangeShapes Go.WideShapes Go.ChangeAt Go.RowKit
open Plain CSat CFix CShape CTensor CConv
def i64L (G:Nat→Int) (n:Nat):List Value:=(List.range n).map (fun k=>.int .i64 (G k))
theorem i64L_at (G:Nat→Int) {n k:Nat} (h:k < n):(i64L G n)[k]?=some (.int .i64 (G k)):=by
 unfold i64L
 rw [List.getElem?_map,List.getElem?_range h]
 rfl
theorem i64L_len (G:Nat→Int) (n:Nat):(i64L G n).length=n:=by simp [i64L]
theorem rd64 {w:World} {B:Nat} {A:Option Addr} {G:Nat→Int} {n:Nat} (h:Kit.Rd w B A (i64L G n)) (hn:0 < n) :
  ∃ b o,A=some ⟨b,o,none⟩∧b < B∧∀ k,k < n→w.cell? ⟨b,o+k,none⟩=some (.int .i64 (G k)):=by
 obtain⟨b,o,e,hb,hc⟩:=h.plain (by rw [i64L_len];exact hn)
 exact⟨b,o,e,hb,fun k hk=>hc k _ (i64L_at G hk)⟩
def mnA (a:Int) (G:Nat→Int):Nat→Int
 | 0=>a
 | k+1=>min (mnA a G k) (G k)
def mxA (a:Int) (G:Nat→Int):Nat→Int
 | 0=>a
 | k+1=>max (mxA a G k) (G k)
def RBox (g:Nat) (a b:Int) (w:World):Prop:=w.cell? ⟨g,0,none⟩=some (.int .i64 a)∧w.cell? ⟨g,1,none⟩=some (.int .i64 b)∧w.frozen? ⟨g,0,none⟩=false∧w.frozen? ⟨g,1,none⟩=false
theorem RBox.below {g B:Nat} {a b:Int} {w w':World} (h:RBox g a b w) (hB:g < B) (hb:Below B w w'):RBox g a b w' :=
 ⟨(hb.cell (p:=⟨g,0,none⟩) hB).trans h.1,(hb.cell (p:=⟨g,1,none⟩) hB).trans h.2.1,(hb.frozen (p:=⟨g,0,none⟩) hB).trans h.2.2.1,(hb.frozen (p:=⟨g,1,none⟩) hB).trans h.2.2.2⟩
theorem RBox.new (a b:Int) (w:World):RBox w.heap.size a b (w.alloc (.cells #[.int .i64 a,.int .i64 b] 264)) :=
 ⟨Kit.zab _ _ _ _,Kit.zab _ _ _ _,World.frozen?_alloc_at _ _ _ _ rfl,World.frozen?_alloc_at _ _ _ _ rfl⟩
theorem RBox.set2 {g:Nat} {a b x y:Int} {w:World} (h:RBox g a b w):RBox g x y ((w.setCell ⟨g,0,none⟩ (.int .i64 x)).setCell ⟨g,1,none⟩ (.int .i64 y)):=by
 obtain⟨h0,h1,h2,h3⟩:=h
 have k:∀ (w:World) (i j:Nat) (u:Value),i≠j→(w.setCell ⟨g,j,none⟩ u).cell? ⟨g,i,none⟩=w.cell? ⟨g,i,none⟩:=fun w i j u hne=>World.cell?_setCell_other _ _ _ _ (fun e=>by injection e;omega)
 refine⟨?_,?_,?_,?_⟩
 ·rw [k _ _ _ _ (by omega)]
  exact World.cell?_setCell_same _ _ _ h0
 ·exact World.cell?_setCell_same _ _ _ ((k _ _ _ _ (by omega)).trans h1)
 ·rw [World.frozen?_setCell,World.frozen?_setCell];exact h2
 ·rw [World.frozen?_setCell,World.frozen?_setCell];exact h3
theorem RBox.set2o {g q:Nat} {a b:Int} {u v:Value} {w:World} (h:RBox g a b w) (hq:q≠g):RBox g a b ((w.setCell ⟨q,0,none⟩ u).setCell ⟨q,1,none⟩ v):=by
 obtain⟨h0,h1,h2,h3⟩:=h
 have k:∀ (w:World) (i j:Nat) (u:Value),(w.setCell ⟨q,j,none⟩ u).cell? ⟨g,i,none⟩=w.cell? ⟨g,i,none⟩:=fun w i j u=>World.cell?_setCell_other _ _ _ _ (fun e=>by injection e;omega)
 refine⟨?_,?_,?_,?_⟩
 ·rw [k,k];exact h0
 ·rw [k,k];exact h1
 ·rw [World.frozen?_setCell,World.frozen?_setCell];exact h2
 ·rw [World.frozen?_setCell,World.frozen?_setCell];exact h3
theorem zbg {B g:Nat} {w w':World} (h:Below B w w') (hg:B≤g) (u v:Value):Below B w ((w'.setCell ⟨g,0,none⟩ u).setCell ⟨g,1,none⟩ v) :=
 (h.setCell (p:=⟨g,0,none⟩) hg _).setCell (p:=⟨g,1,none⟩) hg _
theorem product_to (y v z R:Int) (y1 : -128≤y) (y2:y≤127) (v1 : -128≤v) (v2:v≤127) (z1 : -128≤z) (z2:z≤127) (hR:y * (v - z)=R) (w:World) :
  Calls Tryz.prog 186 #[.int .i8 y,.int .i8 v,.int .i8 z] w fun e w'=>e=.returned (.int .i64 R)∧w=w':=by
 obtain⟨p1,p2⟩:=mul_255 y1 y2 v1 v2 z1 z2
 have e1:IntKind.i64.wrap y=y:=IntWalk.i64_in _ (by omega)
 have e2:IntKind.i64.wrap v=v:=IntWalk.i64_in _ (by omega)
 have e4:IntKind.i64.wrap z=z:=IntWalk.i64_in _ (by omega)
 have e5:IntKind.i64.wrap (v - z)=v - z:=IntWalk.i64_in _ (by omega)
 have e7:IntKind.i64.wrap (y * (v - z))=R:=by rw [← hR];exact IntWalk.i64_in _ (by omega)
 clear hR p1 p2
 go_enter Tryz.func186,Tryz.ntmps186
 go_wp2_with fail
 go_ret
 exact⟨rfl,rfl⟩
theorem widened_to (a b:Int) (G:Nat→Int) (n c:Nat) (hn:n≤1000000) (A:Option Addr) (X Y:Int) (hX:mnA a G n=X) (hY:mxA b G n=Y) (w:World) (hr:Kit.Rd w w.heap.size A (i64L G n)) :
  Calls Tryz.prog 187 #[.agg #[.int .i64 a,.int .i64 b],.slice A n c] w fun e w'=>e=.returned (.agg #[.int .i64 X,.int .i64 Y])∧Below w.heap.size w w':=by
 have HX:=hid hX
 have HY:=hid hY
 have HA:=hid hr
 obtain⟨W1,hW1⟩:∃ W1,w.alloc (.cells #[.int .i64 a,.int .i64 b] 264)=W1:=⟨_,rfl⟩
 have s1:W1.heap.size=w.heap.size+1:=by rw [← hW1];simp
 have b1:Below w.heap.size w W1:=by rw [← hW1];exact (Below.refl _ _).alloc (le_refl _) _
 have r1:RBox w.heap.size a b W1:=by rw [← hW1];exact RBox.new a b w
 have b2:Below (w.heap.size+1) W1 (W1.alloc (.cells #[.int .i64 0,.int .i64 0] 264)):=(Below.refl _ _).alloc (by omega) _
 have r2:RBox (w.heap.size+1) 0 0 (W1.alloc (.cells #[.int .i64 0,.int .i64 0] 264)):=by rw [← s1];exact RBox.new 0 0 W1
 have HB:=hid (b1.trans (b2.mono (by omega)))
 have HR1:=hid (r1.below (by omega) b2)
 have HR2:=hid r2
 have HS:=hid (show w.heap.size+2≤(W1.alloc (.cells #[.int .i64 0,.int .i64 0] 264)).heap.size by simp;omega)
 subst hW1
 clear hX hY hr s1 b1 r1 b2 r2
 go_enter Tryz.func187,Tryz.ntmps187
 go_wp2_with fail
 generalize (w.alloc (.cells #[.int .i64 a,.int .i64 b] 264)).alloc (.cells #[.int .i64 0,.int .i64 0] 264)=W0 at HB HR1 HR2 HS ⊢
 go_loopw [9] (fun u wr=>∃ k:Nat,k≤n∧u=.int .i64 k∧Hid (RBox w.heap.size (mnA a G k) (mxA b G k) wr)∧Hid (RBox (w.heap.size+1) 0 0 wr)∧Hid (Below w.heap.size w wr)∧Hid (w.heap.size+2≤wr.heap.size)) (fun u _=>n - (intOf u).toNat)
 case atStart=>exact⟨0,Nat.zero_le _,rfl,HR1,HR2,HB,HS⟩
 case round =>
  obtain⟨k,hk,rfl,R1,R2,RB,RS⟩:=hrel
  clear HB HR1 HR2 HS
  by_cases hlt:k < n
  ·obtain⟨bb,o,rfl,hbb,hc⟩:=rd64 HA.out (by omega)
   have hck:wr.cell? ⟨bb,o+k,none⟩=some (.int .i64 (G k)):=(RB.out.cell (p:=⟨bb,o+k,none⟩) hbb).trans (hc k hlt)
   have hk0:(0:Int)≤(k:Int):=by omega
   have hkn:(k:Int) < (n:Int):=by omega
   have st1:mnA a G (k+1)=min (mnA a G k) (G k):=rfl
   have st2:mxA b G (k+1)=max (mxA b G k) (G k):=rfl
   rw [← min_ite] at st1
   rw [← max_ite] at st2
   obtain⟨c0,c1,f0,f1⟩:=R1.out
   have m1:(if G k < mnA a G k then G k else mnA a G k)=mnA a G (k+1):=st1.symm
   have m2:(if mxA b G k < G k then G k else mxA b G k)=mxA b G (k+1):=st2.symm
   clear hc st1 st2
   obtain⟨P1,hP1⟩:∃ P,mnA a G k=P:=⟨_,rfl⟩
   obtain⟨Q1,hQ1⟩:∃ P,mxA b G k=P:=⟨_,rfl⟩
   obtain⟨P2,hP2⟩:∃ P,mnA a G (k+1)=P:=⟨_,rfl⟩
   obtain⟨Q2,hQ2⟩:∃ P,mxA b G (k+1)=P:=⟨_,rfl⟩
   rw [hP1] at m1 c0
   rw [hQ1] at m2 c1
   rw [hP2] at m1
   rw [hQ2] at m2
   have HP2:=hid hP2
   have HQ2:=hid hQ2
   clear hP1 hQ1 hP2 hQ2
   generalize G k=x at hck m1 m2
   go_wp2_with fail
   go_roundw
   case rel =>
    refine⟨k+1,by omega,by go_num,?_,?_,?_,?_⟩
    ·rw [HP2.out,HQ2.out];exact hid R1.out.set2
    ·exact hid (R2.out.set2o (by omega))
    ·exact hid (zbg RB.out (le_refl _) _ _)
    ·exact hid (by have:=RS.out;simpa using this)
   case measure=>simp [intOf];omega
  ·obtain rfl:k=n:=by omega
   rw [HX.out,HY.out] at R1
   obtain⟨c0,c1,f0,f1⟩:=R1.out
   obtain⟨d0,d1,g0,g1⟩:=R2.out
   go_wp2_with fail
   refine bodyPost_ret (Kit.zau rfl _ _ (w.heap.size+1) 0 [.int .i64 X,.int .i64 Y] _ rfl (Kit.zar (by go_cell) (by go_cell)) Tryz.underlying264 rfl (by kernel_rfl)) rfl ?_
   exact⟨rfl,zbg RB.out (by omega) _ _⟩
theorem around_to (a:Int) (G:Nat→Int) (n c:Nat) (hn:n≤1000000) (A:Option Addr) (X Y:Int) (hX:mnA a G n=X) (hY:mxA a G n=Y) (w:World) (hr:Kit.Rd w w.heap.size A (i64L G n)) :
  Calls Tryz.prog 185 #[.int .i64 a,.slice A n c] w fun e w'=>e=.returned (.agg #[.int .i64 X,.int .i64 Y])∧Below w.heap.size w w':=by
 have hal:Below w.heap.size w (w.alloc (.cells #[.int .i64 0,.int .i64 0] 264)):=(Below.refl _ _).alloc (le_refl _) _
 have h:=widened_to a a G n c hn A X Y hX hY (w.alloc (.cells #[.int .i64 0,.int .i64 0] 264)) ((hr.below hal).more (by simp))
 have hrb:=RBox.new 0 0 w
 have hsz:(w.alloc (.cells #[.int .i64 0,.int .i64 0] 264)).heap.size=w.heap.size+1:=by simp
 rw [hsz] at h
 have HRB:=hid hrb
 have H:=hid h
 have HAL:=hid hal
 clear h hal hX hY hr hrb hsz
 go_enter Tryz.func185,Tryz.ntmps185
 go_wp2_with (go_at_call 187;(refine H.out.mono ?_);rintro e w1 ⟨rfl,hb⟩;(obtain⟨c0,c1,f0,f1⟩:=HRB.out.below (lt_succ_self _) hb))
 refine bodyPost_ret (Kit.zau rfl _ _ w.heap.size 0 [.int .i64 X,.int .i64 Y] _ rfl (Kit.zar (by go_cell) (by go_cell)) Tryz.underlying264 rfl (by kernel_rfl)) rfl ?_
 exact⟨rfl,zbg (HAL.out.trans (hb.mono (Nat.le_succ _))) (le_refl _) _ _⟩
theorem around_nil (a:Int) (w:World):Calls Tryz.prog 185 #[.int .i64 a,.slice none 0 0] w fun e w'=>e=.returned (.agg #[.int .i64 a,.int .i64 a])∧Below w.heap.size w w' :=
 around_to a (fun _=>0) 0 0 (by omega) none a a rfl rfl w (fun j u h=>by simp [i64L] at h)
theorem rd_one {w:World} {b:Nat} {x:Int} (hb:b < w.heap.size) (hc:w.cell? ⟨b,0,none⟩=some (.int .i64 x)):Kit.Rd w w.heap.size (some ⟨b,0,none⟩) (i64L (fun _=>x) 1):=fun j u h=>by
 rcases j with _ | j
 ·simp [i64L] at h
  subst h
  exact⟨_,rfl,hb,hc⟩
 ·simp [i64L] at h
theorem around_one (a x X Y:Int) (hX:min a x=X) (hY:max a x=Y) (b:Nat) (w:World) (hb:b < w.heap.size) (hc:w.cell? ⟨b,0,none⟩=some (.int .i64 x)) :
  Calls Tryz.prog 185 #[.int .i64 a,.slice (some ⟨b,0,none⟩) 1 1] w fun e w'=>e=.returned (.agg #[.int .i64 X,.int .i64 Y])∧Below w.heap.size w w' :=
 around_to a (fun _=>x) 1 1 (by omega) _ X Y hX hY w (rd_one hb hc)
theorem widened_one (a p x X Y:Int) (hX:min a x=X) (hY:max p x=Y) (b:Nat) (w:World) (hb:b < w.heap.size) (hc:w.cell? ⟨b,0,none⟩=some (.int .i64 x)) :
  Calls Tryz.prog 187 #[.agg #[.int .i64 a,.int .i64 p],.slice (some ⟨b,0,none⟩) 1 1] w fun e w'=>e=.returned (.agg #[.int .i64 X,.int .i64 Y])∧Below w.heap.size w w' :=
 widened_to a p (fun _=>x) 1 1 (by omega) _ X Y hX hY w (rd_one hb hc)
end CSpan
end
section
namespace CSpan
open Plain CSat CFix CShape CTensor CConv
def RowAt (w0:World) (g q:Nat) (S T:Int) (w:World):Prop:=RBox g 0 0 w∧RBox q S T w∧Below g w0 w∧g < q∧q < w.heap.size
theorem RowAt.below {w0:World} {g q:Nat} {S T:Int} {w w':World} (h:RowAt w0 g q S T w) {B:Nat} (hB:q < B) (hb:Below B w w'):RowAt w0 g q S T w':=by
 obtain⟨h1,h2,h3,h4,h5⟩:=h
 exact⟨h1.below (by omega) hb,h2.below (by omega) hb,h3.trans (hb.mono (by omega)),h4,Nat.lt_of_lt_of_le h5 hb.size⟩
theorem RowAt.set {w0:World} {g q:Nat} {S T:Int} {w:World} (h:RowAt w0 g q S T w) (x y:Int):RowAt w0 g q x y ((w.setCell ⟨q,0,none⟩ (.int .i64 x)).setCell ⟨q,1,none⟩ (.int .i64 y)):=by
 obtain⟨h1,h2,h3,h4,h5⟩:=h
 exact⟨h1.set2o (by omega),h2.set2,zbg h3 (by omega) _ _,h4,by simpa using h5⟩
theorem RowAt.start {w w1:World} (x:Int) (h1:RBox w.heap.size 0 0 w1) (h2:Below w.heap.size w w1) (h3:w.heap.size < w1.heap.size):RowAt w w.heap.size w1.heap.size x x (w1.alloc (.cells #[.int .i64 x,.int .i64 x] 264)) :=
 ⟨h1.below h3 ((Below.refl _ _).alloc (le_refl _) _),RBox.new x x w1,h2.trans ((Below.refl _ _).alloc (by omega) _),h3,by simp⟩
def OneAt (p q:Nat) (D U:Int) (w:World):Prop:=RBox p D U w∧q < p∧p < w.heap.size
theorem crow_to (A:Option Addr) (ws:List Int) (n c:Nat) (hn:ws.length=n) (hn2:n≤1000000) (hw:I8b ws) (bias lo hi z:Int) (b1 : -2147483648≤bias) (b2:bias≤2147483647) (l1 : -128≤lo) (l2:lo≤127) (h1 : -128≤hi) (h2:hi≤127) (z1 : -128≤z) (z2:z≤127) (g:Bool)
  (X Y:Int) (hX:bias+psum (dnF ws lo hi z g) n=X) (hY:bias+psum (upF ws lo hi z g) n=Y) (w:World) (hr:Kit.Rd w w.heap.size A (I8s ws)) :
  Calls Tryz.prog 172 #[.slice A n c,.int .i32 bias,.int .i8 lo,.int .i8 hi,.int .i8 z,.bool g] w fun e w'=>e=.returned (.agg #[.int .i64 X,.int .i64 Y])∧Below w.heap.size w w':=by
 have HX:=hid hX
 have HY:=hid hY
 have HN:=hid hn
 have HW:=hid hw
 have HR:=hid hr
 have hdb:=fun (k:Nat) (hk:k≤n)=>psum_bd (G:=dnF ws lo hi z g) (b:=32640) (n:=k) (fun j _=>dnF_bd hw l1 l2 h1 h2 z1 z2 g j)
 have hub:=fun (k:Nat) (hk:k≤n)=>psum_bd (G:=upF ws lo hi z g) (b:=32640) (n:=k) (fun j _=>upF_bd hw l1 l2 h1 h2 z1 z2 g j)
 have HDB:=hid hdb
 have HUB:=hid hub
 have eb:IntKind.i64.wrap bias=bias:=IntWalk.i64_in _ (by omega)
 have hal:Below w.heap.size w (w.alloc (.cells #[.int .i64 0,.int .i64 0] 264)):=(Below.refl _ _).alloc (le_refl _) _
 have hrb:=RBox.new 0 0 w
 have hsz:(w.alloc (.cells #[.int .i64 0,.int .i64 0] 264)).heap.size=w.heap.size+1:=by simp
 have HRB:=hid hrb
 have HAL:=hid hal
 have HSZ:=hid hsz
 clear hX hY hn hw hr hdb hub hal hrb hsz
 go_enter Tryz.func172,Tryz.ntmps172
 go_upto_region 1 with fail
 generalize w.alloc (.cells #[.int .i64 0,.int .i64 0] 264)=W0 at HRB HAL HSZ ⊢
 have hz0:=HSZ.out
 go_wp2_with (go_at_call 185;(refine (around_nil bias _).mono ?_);rintro e w1 ⟨rfl,hb⟩;(have HRB1:=hid (HRB.out.below (by omega) hb));(have HAL1:=hid (HAL.out.trans (hb.mono (by omega))));(have HS1:=hid hb.size);clear hb)
 have HST:=hid (RowAt.start bias HRB1.out HAL1.out (by have:=HS1.out;omega))
 obtain⟨q,hq⟩:∃ q,w1.heap.size=q:=⟨_,rfl⟩
 simp only [hq] at HST ⊢
 generalize w1.alloc (.cells #[.int .i64 bias,.int .i64 bias] 264)=W1 at HST ⊢
 clear HRB HAL HSZ HRB1 HAL1 HS1 hz0 eb hq
 go_loopw [22] (fun u wr=>∃ k:Nat,k≤n∧u=.int .i64 k∧Hid (RowAt w w.heap.size q (bias+psum (dnF ws lo hi z g) k) (bias+psum (upF ws lo hi z g) k) wr)) (fun u _=>n - (intOf u).toNat)
 case atStart=>exact⟨0,Nat.zero_le _,rfl,by simpa [psum] using HST⟩
 case round =>
  obtain⟨k,hk,rfl,R⟩:=hrel
  clear HST
  by_cases hlt:k < n
  ·obtain⟨ba,oa,rfl,hba,hca⟩:=ints_getD HR.out (j:=0) (by have:=HN.out;omega)
   have hcx:wr.cell? ⟨ba,oa+k,none⟩=some (.int .i8 (ws.getD k 0)):=(R.out.2.2.1.cell (p:=⟨ba,oa+k,none⟩) hba).trans (hca k (by have:=HN.out;omega))
   have hk0:(0:Int)≤(k:Int):=by omega
   have hkn:(k:Int) < (n:Int):=by omega
   obtain⟨y1,y2⟩:=HW.out k
   obtain⟨p1,p2⟩:=mul_255 y1 y2 l1 l2 z1 z2
   obtain⟨q1,q2⟩:=mul_255 y1 y2 h1 h2 z1 z2
   obtain⟨d1,d2⟩:=HDB.out k (by omega)
   obtain⟨u1,u2⟩:=HUB.out k (by omega)
   have hD:dnF ws lo hi z g k=if g then min (min (ws.getD k 0 * (lo - z)) (ws.getD k 0 * (hi - z))) 0 else min (ws.getD k 0 * (lo - z)) (ws.getD k 0 * (hi - z)):=rfl
   have hU:upF ws lo hi z g k=if g then max (max (ws.getD k 0 * (lo - z)) (ws.getD k 0 * (hi - z))) 0 else max (ws.getD k 0 * (lo - z)) (ws.getD k 0 * (hi - z)):=rfl
   have s1:bias+psum (dnF ws lo hi z g) (k+1)=bias+psum (dnF ws lo hi z g) k+dnF ws lo hi z g k:=by simp only [psum];omega
   have s2:bias+psum (upF ws lo hi z g) (k+1)=bias+psum (upF ws lo hi z g) k+upF ws lo hi z g k:=by simp only [psum];omega
   have S1:=hid s1
   have S2:=hid s2
   clear s1 s2
   obtain⟨P,hP⟩:∃ P,bias+psum (dnF ws lo hi z g) k=P:=⟨_,rfl⟩
   obtain⟨Q,hQ⟩:∃ Q,bias+psum (upF ws lo hi z g) k=Q:=⟨_,rfl⟩
   have bP : -40000000000≤P∧P≤40000000000:=by omega
   have bQ : -40000000000≤Q∧Q≤40000000000:=by omega
   rw [hP,hQ] at R
   rw [hP] at S1
   rw [hQ] at S2
   clear hP hQ d1 d2 u1 u2
   obtain⟨bP1,bP2⟩:=bP
   obtain⟨bQ1,bQ2⟩:=bQ
   generalize dnF ws lo hi z g k=D at hD S1
   generalize upF ws lo hi z g k=U at hU S2
   generalize ws.getD k 0=y at hcx y1 y2 p1 p2 q1 q2 hD hU
   obtain⟨a,ha⟩:∃ a,y * (lo - z)=a:=⟨_,rfl⟩
   obtain⟨b,hb⟩:∃ b,y * (hi - z)=b:=⟨_,rfl⟩
   rw [ha] at p1 p2
   rw [hb] at q1 q2
   rw [ha,hb] at hD hU
   obtain⟨m,hm⟩:∃ m,min a b=m:=⟨_,rfl⟩
   obtain⟨M,hM⟩:∃ M,max a b=M:=⟨_,rfl⟩
   rw [hm] at hD
   rw [hM] at hU
   have bm : -32640≤m∧M≤32640∧m≤M:=by omega
   obtain⟨bm1,bm2,bm3⟩:=bm
   have HA:=hid (fun w=>product_to y lo z a y1 y2 l1 l2 z1 z2 ha w)
   have HB:=hid (fun w=>product_to y hi z b y1 y2 h1 h2 z1 z2 hb w)
   have HM:=hid (fun (bl:Nat) (w:World) hbl hc=>around_one a b m M hm hM bl w hbl hc)
   have HD:=hid hD
   have HU:=hid hU
   clear ha hb hm hM hca hD hU
   have hsz:wr.heap.size < (wr.alloc (.cells #[.int .i64 b] 3)).heap.size:=by simp
   have hcn:(wr.alloc (.cells #[.int .i64 b] 3)).cell? ⟨wr.heap.size,0,none⟩=some (.int .i64 b):=Kit.zab _ _ _ _
   have HRA:=hid (R.out.below (Nat.lt_of_lt_of_le R.out.2.2.2.2 (le_refl _)) ((Below.refl _ _).alloc (le_refl _) (.cells #[.int .i64 b] 3)))
   have HC:=hid hcn
   have HSZ:=hid hsz
   clear hcn hsz
   go_upto_region 6 with (first
    | (go_at_call 186;(with_reducible refine (HA.out _).mono ?_);rintro e w1 ⟨rfl,rfl⟩)
    | (go_at_call 186;(with_reducible refine (HB.out _).mono ?_);rintro e w1 ⟨rfl,rfl⟩)
    | (go_at_call 185;(refine (HM.out _ _ HSZ.out HC.out).mono ?_);rintro e w2 ⟨rfl,hb2⟩;(have HR2:=hid (HRA.out.below HRA.out.2.2.2.2 hb2));clear hb2))
   have HR3:=hid (HR2.out.below HR2.out.2.2.2.2 ((Below.refl _ _).alloc (le_refl _) (.cells #[.int .i64 m,.int .i64 M] 264)))
   have HO3:=hid (show OneAt w2.heap.size q m M (w2.alloc (.cells #[.int .i64 m,.int .i64 M] 264)) from ⟨RBox.new m M w2,HR2.out.2.2.2.2,by simp⟩)
   obtain⟨p,hp⟩:∃ p,w2.heap.size=p:=⟨_,rfl⟩
   simp only [hp] at HO3 ⊢
   generalize w2.alloc (.cells #[.int .i64 m,.int .i64 M] 264)=W3 at HR3 HO3 ⊢
   clear HR2 HRA HC HSZ HA HB HM hp hcx R
   cases g with
   | false =>
     obtain rfl:D=m:=by simpa using HD.out
     obtain rfl:U=M:=by simpa using HU.out
     go_upto_region 8 with fail
     have HR5:=HR3
     have HO5:=HO3
     clear HR3 HO3
     have e9:IntKind.i64.wrap (P+D)=P+D:=IntWalk.i64_in _ (by omega)
     have e10:IntKind.i64.wrap (Q+U)=Q+U:=IntWalk.i64_in _ (by omega)
     obtain⟨o0,o1,of0,of1⟩:=HO5.out.1
     obtain⟨a0,a1,af0,af1⟩:=HR5.out.2.1
     have hpq:¬ p=q:=by have:=HO5.out.2.1;omega
     have hqp:¬ q=p:=by have:=HO5.out.2.1;omega
     go_wp2_with fail
     go_roundw
     case rel =>
      refine⟨k+1,by omega,by go_num,?_⟩
      rw [S1.out,S2.out]
      exact hid (HR5.out.set _ _)
     case measure=>simp [intOf];omega
   | true =>
     have hD:min m 0=D:=by simpa using HD.out.symm
     have hU:max M 0=U:=by simpa using HU.out.symm
     have bD : -32640≤D∧U≤32640∧D≤0∧0≤U:=by omega
     obtain⟨bD1,bD2,bD3,bD4⟩:=bD
     have HM:=hid (fun (bl:Nat) (w:World) hbl hc=>widened_one m M 0 D U hD hU bl w hbl hc)
     have hsz:W3.heap.size < (W3.alloc (.cells #[.int .i64 0] 3)).heap.size:=by simp
     have hcn:(W3.alloc (.cells #[.int .i64 0] 3)).cell? ⟨W3.heap.size,0,none⟩=some (.int .i64 0):=Kit.zab _ _ _ _
     have hba:Below W3.heap.size W3 (W3.alloc (.cells #[.int .i64 0] 3)):=(Below.refl _ _).alloc (le_refl _) _
     have HRA:=hid (HR3.out.below HR3.out.2.2.2.2 hba)
     have HOA:=hid (show OneAt p q m M (W3.alloc (.cells #[.int .i64 0] 3)) from ⟨HO3.out.1.below HO3.out.2.2 hba,HO3.out.2.1,Nat.lt_of_lt_of_le HO3.out.2.2 hba.size⟩)
     have HC:=hid hcn
     have HSZ:=hid hsz
     obtain⟨o0,o1,of0,of1⟩:=HO3.out.1
     clear hcn hsz hba hD hU
     go_upto_region 8 with (go_at_call 187;(refine (HM.out _ _ HSZ.out HC.out).mono ?_);rintro e w4 ⟨rfl,hb4⟩;(have HR4:=hid (HRA.out.below HRA.out.2.2.2.2 hb4));(have HO4:=hid (show OneAt p q m M w4 from ⟨HOA.out.1.below HOA.out.2.2 hb4,HOA.out.2.1,Nat.lt_of_lt_of_le HOA.out.2.2 hb4.size⟩));(clear o0 o1 of0 of1 hb4);(obtain⟨o0,o1,of0,of1⟩:=HO4.out.1))
     have HO5:=hid (show OneAt p q D U ((w4.setCell ⟨p,0,none⟩ (.int .i64 D)).setCell ⟨p,1,none⟩ (.int .i64 U)) from ⟨HO4.out.1.set2,HO4.out.2.1,by simpa using HO4.out.2.2⟩)
     have HR5:Hid (RowAt w w.heap.size q P Q ((w4.setCell ⟨p,0,none⟩ (.int .i64 D)).setCell ⟨p,1,none⟩ (.int .i64 U))):=by
      obtain⟨r1,r2,r3,r4,r5⟩:=HR4.out
      have hq:=HO4.out.2.1
      exact hid ⟨r1.set2o (by omega),r2.set2o (by omega),zbg r3 (by omega) _ _,r4,by simpa using r5⟩
     clear o0 o1 of0 of1 HR4 HO4 HRA HOA HC HSZ HR3 HO3 HM
     generalize (w4.setCell ⟨p,0,none⟩ (.int .i64 D)).setCell ⟨p,1,none⟩ (.int .i64 U)=W5 at HR5 HO5 ⊢
     have e9:IntKind.i64.wrap (P+D)=P+D:=IntWalk.i64_in _ (by omega)
     have e10:IntKind.i64.wrap (Q+U)=Q+U:=IntWalk.i64_in _ (by omega)
     obtain⟨o0,o1,of0,of1⟩:=HO5.out.1
     obtain⟨a0,a1,af0,af1⟩:=HR5.out.2.1
     have hpq:¬ p=q:=by have:=HO5.out.2.1;omega
     have hqp:¬ q=p:=by have:=HO5.out.2.1;omega
     go_wp2_with fail
     go_roundw
     case rel =>
      refine⟨k+1,by omega,by go_num,?_⟩
      rw [S1.out,S2.out]
      exact hid (HR5.out.set _ _)
     case measure=>simp [intOf];omega
  ·obtain rfl:k=n:=by omega
   rw [HX.out,HY.out] at R
   obtain⟨⟨c0,c1,f0,f1⟩,⟨d0,d1,g0,g1⟩, -,hgq, -⟩:=R.out
   go_wp2_with fail
   refine bodyPost_ret (Kit.zau rfl _ _ w.heap.size 0 [.int .i64 X,.int .i64 Y] _ rfl (Kit.zar (by go_cell) (by go_cell)) Tryz.underlying264 rfl (by kernel_rfl)) rfl ?_
   exact⟨rfl,zbg R.out.2.2.1 (le_refl _) _ _⟩
end CSpan
end
end Go.Proofs.YtfgdfignoakkaaaGreatDoor
