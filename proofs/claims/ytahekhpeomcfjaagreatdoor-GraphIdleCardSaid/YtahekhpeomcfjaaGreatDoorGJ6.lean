/- -/
import Derived.OrdersIn
import Derived.Test.YtahekhpeomcfjaaGreatDoorGJ5
open Go.Lib (hid)
open Nat (le_refl lt_of_succ_lt lt_succ_self)
set_option linter.unusedVariables false
set_option linter.unusedSimpArgs false
set_option maxRecDepth 100000
set_option maxHeartbeats 16000000
namespace Go.Proofs.YtahekhpeomcfjaaGreatDoor
namespace CSat
end CSat
namespace CShape
end CShape
namespace CTensor
end CTensor
open Go Go.ChangeShapes Go.WideShapes Go.ChangeAt Go.RowKit Go.Deep
section
namespace CTensor
open Go Go.ChangeShapes Go.WideShapes Go.ChangeAt Go.RowKit
open Plain CSat CShape
def zbm (B:Nat) (wd:World):Prop :=
 (wd.cell? ⟨B,0,none⟩=some (.int .i64 0)∧wd.cell? ⟨B,1,none⟩=some (.int .i64 0)∧wd.cell? ⟨B,2,none⟩=some (.int .i64 0)∧wd.cell? ⟨B,3,none⟩=some (.slice none 0 0)) ∧
 wd.frozen? ⟨B,0,none⟩=false∧wd.frozen? ⟨B,1,none⟩=false∧wd.frozen? ⟨B,2,none⟩=false∧wd.frozen? ⟨B,3,none⟩=false
theorem zbm.new (T:TypeId) (w:World) (B:Nat) (hB:B=w.heap.size):zbm B (w.alloc (.cells #[.int .i64 0,.int .i64 0,.int .i64 0,.slice none 0 0] T)):=by
 subst hB
 exact⟨⟨Kit.zaf _ _ _ _,Kit.zaf _ _ _ _,Kit.zaf _ _ _ _,Kit.zaf _ _ _ _⟩,World.frozen?_alloc_at _ _ _ _ rfl,World.frozen?_alloc_at _ _ _ _ rfl,World.frozen?_alloc_at _ _ _ _ rfl,World.frozen?_alloc_at _ _ _ _ rfl⟩
theorem zbm.below {B B':Nat} {w w':World} (h:zbm B w) (hB:B < B') (hb:Below B' w w'):zbm B w':=by
 obtain⟨⟨h1,h2,h3,h4⟩,h5,h6,h7,h8⟩:=h
 exact⟨⟨(hb.cell (p:=⟨B,0,none⟩) hB).trans h1,(hb.cell (p:=⟨B,1,none⟩) hB).trans h2,(hb.cell (p:=⟨B,2,none⟩) hB).trans h3,(hb.cell (p:=⟨B,3,none⟩) hB).trans h4⟩,
  (hb.frozen (p:=⟨B,0,none⟩) hB).trans h5,(hb.frozen (p:=⟨B,1,none⟩) hB).trans h6,(hb.frozen (p:=⟨B,2,none⟩) hB).trans h7,(hb.frozen (p:=⟨B,3,none⟩) hB).trans h8⟩
theorem zan {w:World} {b:Nat} {x y z u:Value} (h0:w.cell? ⟨b,0,none⟩=some x) (h1:w.cell? ⟨b,1,none⟩=some y) (h2:w.cell? ⟨b,2,none⟩=some z) (h3:w.cell? ⟨b,3,none⟩=some u):w.rangeAt b 0 [x,y,z,u]:=by
 intro j v hj
 match j,hj with
 | 0,hj=>simpa [← hj] using h0
 | 1,hj=>simpa [← hj] using h1
 | 2,hj=>simpa [← hj] using h2
 | 3,hj=>simpa [← hj] using h3
theorem BoxAt.stores {B B2:Nat} {H W C:Int} {A:Option Addr} {n c:Nat} {w:World} (h:BoxAt B H W C A n c w) (hne:B≠B2) (a b d e:Value) :
  BoxAt B H W C A n c ((((w.setCell ⟨B2,0,none⟩ a).setCell ⟨B2,1,none⟩ b).setCell ⟨B2,2,none⟩ d).setCell ⟨B2,3,none⟩ e):=by
 have k:∀ i j (v:Value) (wd:World),(wd.setCell ⟨B2,j,none⟩ v).cell? ⟨B,i,none⟩=wd.cell? ⟨B,i,none⟩:=fun i j v wd=>World.cell?_setCell_other _ _ _ _ (fun e=>hne (congrArg Addr.block e).symm)
 unfold BoxAt
 simp only [k]
 exact h
theorem zat {w:World} {base:Nat} {e:TypeId} {size n:Nat} {v:Value} {xs:List Value} (h:w.ownsRow base e size v n xs) (a:Addr) (u:Value) (ha:a.block < base):(w.setCell a u).ownsRow base e size v n xs:=by
 refine h.kept (row:=some a.block) ⟨rfl,rfl,rfl,by simp,fun k _ hk=>Below.heap_setCell _ _ _ k (fun e=>hk (by rw [e]))⟩ ?_
 cases hv:v.ownBlock with
 | none=>exact .inl rfl
 | some q=>exact .inr (fun e=>by have:=Kit.zaj h q hv;cases e;omega)
def Cloned (w:World) (H W C:Int) (n:Nat) (zs:List Int) (e:Ending) (w':World):Prop :=
 ∃ v,e=.returned (.agg #[.int .i64 H,.int .i64 W,.int .i64 C,v])∧w'.ownsRow w.heap.size 39 1 v n (I8s zs)∧Below w.heap.size w w'
theorem clone_to (H W C:Int) (A:Option Addr) (zs:List Int) (n c:Nat) (hn:zs.length=n) (hl:n≤1000000) {B:Nat} (w:World) (hB:B≤w.heap.size) (hr:Kit.Rd w B A (zs.map (.int .i8))) :
  Calls Tryz.prog 123 #[.agg #[.int .i64 H,.int .i64 W,.int .i64 C,.slice A n c]] w (Cloned w H W C n zs):=by
 have HN:=hid hn
 have HR:=hid hr
 clear hn hr
 go_enter Tryz.func123,Tryz.ntmps123
 go_wp2_with fail
 have hbox:BoxAt w.heap.size H W C A n c ((w.alloc (.cells #[.int .i64 H,.int .i64 W,.int .i64 C,.slice A n c] 27)).alloc (.cells #[.int .i64 0,.int .i64 0,.int .i64 0,.slice none 0 0] 27)).drew :=
  (BoxAt.new H W C A n c 27 w).below (lt_succ_self _) (((Below.refl _ _).alloc (by simp) _))
 have HFR:Hid (zbm (w.heap.size+1) ((w.alloc (.cells #[.int .i64 H,.int .i64 W,.int .i64 C,.slice A n c] 27)).alloc (.cells #[.int .i64 0,.int .i64 0,.int .i64 0,.slice none 0 0] 27)).drew):=hid (zbm.new _ _ _ (by simp))
 refine wp_region_held_drew (S:=BoxAt w.heap.size H W C A n c) (by kernel_rfl) hbox (fun hHeld=>?_)
 refine Tk.y 0 (v:=?_) rfl ?_ ?_
 rotate_left
 ·intro wS hSw
  obtain⟨s1,s2,s3,s4⟩:=hSw
  first | (go_simp;done) | (go_simp;with_reducible rfl)
 try simp only [Tk.put]
 refine Tk.y 1 (v:=?_) rfl ?_ ?_
 rotate_left
 ·intro wS hSw
  obtain⟨s1,s2,s3,s4⟩:=hSw
  first | (go_simp;done) | (go_simp;with_reducible rfl)
 try simp only [Tk.put]
 refine Tk.y 2 (v:=?_) rfl ?_ ?_
 rotate_left
 ·intro wS hSw
  obtain⟨s1,s2,s3,s4⟩:=hSw
  first | (go_simp;done) | (go_simp;with_reducible rfl)
 try simp only [Tk.put]
 refine Tk.y 3 (v:=?_) rfl ?_ ?_
 rotate_left
 ·intro wS hSw
  obtain⟨s1,s2,s3,s4⟩:=hSw
  first | (go_simp;done) | (go_simp;with_reducible rfl)
 try simp only [Tk.put]
 refine Tk.s 4 rfl (fun K hK=>?_)
 go_simp
 go_at_call 15
 refine (sclone A zs n c HN.out hl (B:=B) _ (by simp;omega) (((HR.out.alloc hB _).alloc (by simp;omega) _).drew)).mono ?_
 rintro e w1 ⟨v1,rfl,ho1,hb1⟩
 have hS1:=hHeld.below (by first | (simp;done) | (simp;omega)) hb1
 obtain⟨⟨z0,z1,z2,z3⟩,z4,z5,z6,z7⟩:=HFR.out.below (by first | (simp;done) | (simp;omega)) hb1
 obtain⟨A1,c1,rfl,_,_,_⟩:=Kit.zam ho1
 have HO:=hid ho1
 have HB1:=hid hb1
 clear ho1 hb1 hHeld
 dsimp only
 refine hK.out _ _ ?_ (fun hHeld=>?_)
 ·exact hS1
 clear hK K
 try simp only [Tk.put]
 refine Tk.x 5 rfl ?_
 try simp only [Tk.put]
 refine Tk.s 6 rfl (fun K hK=>?_)
 go_simp
 refine hK.out _ _ ?_ (fun hHeld=>?_)
 ·exact hHeld.stores (by omega) _ _ _ _
 clear hK K
 try simp only [Tk.put]
 refine wpAnyH_done (by kernel_rfl) ?_ _
 go_wp2_with fail
 refine bodyPost_ret (Kit.za6 rfl _ _ (w.heap.size+1) 0 [.int .i64 H,.int .i64 W,.int .i64 C,.slice A1 n c1] _ rfl (zan (by go_cell) (by go_cell) (by go_cell) (by go_cell)) Tryz.underlying27 rfl (by kernel_rfl)) rfl ?_
 have hz:w.heap.size+2≤w1.heap.size:=by have:=HB1.out.size;simp at this;omega
 refine⟨_,rfl,Kit.zah (zat (zat (zat (zat HO.out _ _ ?_) _ _ ?_) _ _ ?_) _ _ ?_) ?_,?_⟩
 any_goals (first | (simp;done) | (simp;omega))
 exact (((((((Below.refl w.heap.size w).alloc (le_refl _) _).alloc (by simp) _).drew).trans (HB1.out.mono (by simp;omega))).setCell (p:=⟨w.heap.size+1,0,none⟩) (by simp) _).setCell (p:=⟨w.heap.size+1,1,none⟩) (by simp) _ |>.setCell (p:=⟨w.heap.size+1,2,none⟩) (by simp) _).setCell (p:=⟨w.heap.size+1,3,none⟩) (by simp) _
end CTensor
end
section
namespace CPad
open Go Go.ChangeShapes Go.WideShapes Go.ChangeAt Go.RowKit
open Plain CSat CShape CTensor
def pixZ (zs:List Int) (H W C h w k z:Int):Int:=if 0≤h∧h < H∧0≤w∧w < W then zs.getD ((h * W+w) * C+k).toNat 0 else z
theorem mul_lt {a b c d:Int} (h0:0≤a) (h1:a < b) (h2:0≤c) (h3:c < d):0≤a * d+c∧a * d+c < b * d:=by
 have e1:0≤a * d:=Int.mul_nonneg h0 (by omega)
 have e2:(a+1) * d≤b * d:=Int.mul_le_mul_of_nonneg_right (by omega) (by omega)
 rw [Int.add_mul,Int.one_mul] at e2
 omega
theorem place_bd {H W C h w k:Int} {n:Nat} (hs:zad H W C=true) (hn:(n:Int)=H * W * C) (h0:0≤h) (h1:h < H) (w0:0≤w) (w1:w < W) (k0:0≤k) (k1:k < C) :
  0≤h * W∧h * W≤256∧0≤h * W+w∧h * W+w≤256∧0≤(h * W+w) * C∧(h * W+w) * C≤1024∧0≤(h * W+w) * C+k∧(h * W+w) * C+k < (n:Int):=by
 obtain⟨a1,a2,a3,a4,a5,a6,a7⟩:=zab hs
 have m1:=mul_lt h0 h1 w0 w1
 have m2:=mul_lt m1.1 m1.2 k0 k1
 have e1:0≤h * W:=Int.mul_nonneg h0 (by omega)
 have e2:H * W≤256:=Int.mul_le_mul a2 a4 (by omega) (by omega)
 have e3:0≤(h * W+w) * C:=Int.mul_nonneg m1.1 (by omega)
 rw [← hn] at m2 a7
 exact⟨e1,by omega,m1.1,by omega,e3,by omega,m2.1,m2.2⟩
end CPad
end
section
namespace CFour
open Go Go.ChangeShapes Go.WideShapes Go.ChangeAt Go.RowKit
open FloatNum
theorem plus_to (X Y:Nat→Value) (p q:Nat→G) (A B:Nat) (hAB:A+B < 2 ^ 53) (hX:∀ i,i < 4→IsC (X i) (p i)) (hY:∀ i,i < 4→IsC (Y i) (q i)) (hp:∀ i,Bd A (p i)) (hq:∀ i,Bd B (q i)) (w:World) :
  Calls Tryz.prog 171 #[agg4 X,agg4 Y] w fun e' w'=>(∃ S,e'=.returned (agg4 S)∧∀ i,i < 4→IsC (S i) (gadd (p i) (q i)))∧Below w.heap.size w w':=by
 have HX:=hid hX
 have HY:=hid hY
 have HP:=hid hp
 have HQ:=hid hq
 have HAB:=hid hAB
 clear hX hY hp hq hAB
 go_enter Tryz.func171,Tryz.ntmps171
 go_wp2_with fail
 go_loopw [7] (fun u wr=>∃ (k:Nat) (S:Nat→Value),k≤4∧u=.int .i64 k∧Hid (FillR (fun i=>gadd (p i) (q i)) k S)∧Hid (Four (w.heap.size+1+1+1) S wr)∧Hid (Four (w.heap.size+1+1) (fun _=>z0) wr)∧Hid (Four w.heap.size X wr)∧Hid (Four (w.heap.size+1) Y wr)∧Hid (Below w.heap.size w wr)) (fun u _=>4 - (intOf u).toNat)
 case atStart =>
  have h0:=(Four.box w X 217).below ((((Below.refl _ _).alloc (le_refl _) (.cells #[Y 0,Y 1,Y 2,Y 3] 217)).alloc (by simp) (.cells #[z0,z0,z0,z0] 217)).alloc (by simp) (.cells #[z0,z0,z0,z0] 217)) (by simp)
  have h1:=(Four.box (w.alloc (.cells #[X 0,X 1,X 2,X 3] 217)) Y 217).below (((Below.refl _ _).alloc (le_refl _) (.cells #[z0,z0,z0,z0] 217)).alloc (by simp) (.cells #[z0,z0,z0,z0] 217)) (by simp)
  have h2:=(Four.new ((w.alloc (.cells #[X 0,X 1,X 2,X 3] 217)).alloc (.cells #[Y 0,Y 1,Y 2,Y 3] 217)) z0 217).below ((Below.refl _ _).alloc (le_refl _) (.cells #[z0,z0,z0,z0] 217)) (by simp)
  have h3:=Four.new (((w.alloc (.cells #[X 0,X 1,X 2,X 3] 217)).alloc (.cells #[Y 0,Y 1,Y 2,Y 3] 217)).alloc (.cells #[z0,z0,z0,z0] 217)) z0 217
  have e1:(w.alloc (.cells #[X 0,X 1,X 2,X 3] 217)).heap.size=w.heap.size+1:=by simp
  have e2:((w.alloc (.cells #[X 0,X 1,X 2,X 3] 217)).alloc (.cells #[Y 0,Y 1,Y 2,Y 3] 217)).heap.size=w.heap.size+1+1:=by simp
  have e3:(((w.alloc (.cells #[X 0,X 1,X 2,X 3] 217)).alloc (.cells #[Y 0,Y 1,Y 2,Y 3] 217)).alloc (.cells #[z0,z0,z0,z0] 217)).heap.size=w.heap.size+1+1+1:=by simp
  rw [e1] at h1
  rw [e2] at h2
  rw [e3] at h3
  exact⟨0,fun _=>z0,by omega,rfl,hid (FillR.start _),hid h3,hid h2,hid h0,hid h1,hid (((((Below.refl _ _).alloc (le_refl _) _).alloc (by simp) _).alloc (by simp;omega) _).alloc (by simp;omega) _)⟩
 case round =>
  obtain⟨k,S,hk,rfl,hS,hF,hR,hU,hV,hBw⟩:=hrel
  by_cases hlt:k < 4
  ·obtain⟨x,hx1,hx2⟩:=IsC.add (P:=Tryz.prog) (HX.out k hlt) (HY.out k hlt) (HP.out k) (HQ.out k) HAB.out
   have HT:=hid (hS.out.step hx2)
   have HG:=hid (hF.out.set hlt x)
   have HR1:=hid (hR.out.other (g':=w.heap.size+1+1+1) (k:=k) x (by omega))
   have HU1:=hid (hU.out.other (g':=w.heap.size+1+1+1) (k:=k) x (by omega))
   have HV1:=hid (hV.out.other (g':=w.heap.size+1+1+1) (k:=k) x (by omega))
   have HB1:=hid (hBw.out.setCell (p:=⟨w.heap.size+1+1+1,k,none⟩) (by show w.heap.size≤w.heap.size+1+1+1;omega) x)
   obtain⟨xa,xb,rfl, -⟩:=hx2
   have hst:=st_c xa xb
   have c0:=hU.out.1 0 (by omega)
   have c1:=hU.out.1 1 (by omega)
   have c2:=hU.out.1 2 (by omega)
   have c3:=hU.out.1 3 (by omega)
   have d0:=hV.out.1 0 (by omega)
   have d1:=hV.out.1 1 (by omega)
   have d2:=hV.out.1 2 (by omega)
   have d3:=hV.out.1 3 (by omega)
   have e0:=hF.out.1 0 (by omega)
   have e1:=hF.out.1 1 (by omega)
   have e2:=hF.out.1 2 (by omega)
   have e3:=hF.out.1 3 (by omega)
   have f0:=hF.out.2.1 0 (by omega)
   have f1:=hF.out.2.1 1 (by omega)
   have f2:=hF.out.2.1 2 (by omega)
   have f3:=hF.out.2.1 3 (by omega)
   obtain rfl | rfl | rfl | rfl:=lt4 hlt
   all_goals go_wp2
   ·go_region_held3 (fun W=>W.cell? ⟨w.heap.size,0,none⟩=some (X 0)∧W.cell? ⟨w.heap.size+1,0,none⟩=some (Y 0)) (first | exact⟨HU1.out.1 0 (by omega),HV1.out.1 0 (by omega)⟩ | (go_keep;done)) (fail)
    go_wp2
    go_roundw
    case rel=>exact⟨_,_,by omega,by go_num,HT,hid HG.out.drew,hid HR1.out.drew,hid HU1.out.drew,hid HV1.out.drew,hid HB1.out.drew⟩
    case measure=>simp [intOf]
   ·go_region_held3 (fun W=>W.cell? ⟨w.heap.size,1,none⟩=some (X 1)∧W.cell? ⟨w.heap.size+1,1,none⟩=some (Y 1)) (first | exact⟨HU1.out.1 1 (by omega),HV1.out.1 1 (by omega)⟩ | (go_keep;done)) (fail)
    go_wp2
    go_roundw
    case rel=>exact⟨_,_,by omega,by go_num,HT,hid HG.out.drew,hid HR1.out.drew,hid HU1.out.drew,hid HV1.out.drew,hid HB1.out.drew⟩
    case measure=>simp [intOf]
   ·go_region_held3 (fun W=>W.cell? ⟨w.heap.size,2,none⟩=some (X 2)∧W.cell? ⟨w.heap.size+1,2,none⟩=some (Y 2)) (first | exact⟨HU1.out.1 2 (by omega),HV1.out.1 2 (by omega)⟩ | (go_keep;done)) (fail)
    go_wp2
    go_roundw
    case rel=>exact⟨_,_,by omega,by go_num,HT,hid HG.out.drew,hid HR1.out.drew,hid HU1.out.drew,hid HV1.out.drew,hid HB1.out.drew⟩
    case measure=>simp [intOf]
   ·go_region_held3 (fun W=>W.cell? ⟨w.heap.size,3,none⟩=some (X 3)∧W.cell? ⟨w.heap.size+1,3,none⟩=some (Y 3)) (first | exact⟨HU1.out.1 3 (by omega),HV1.out.1 3 (by omega)⟩ | (go_keep;done)) (fail)
    go_wp2
    go_roundw
    case rel=>exact⟨_,_,by omega,by go_num,HT,hid HG.out.drew,hid HR1.out.drew,hid HU1.out.drew,hid HV1.out.drew,hid HB1.out.drew⟩
    case measure=>simp [intOf]
  ·have hk4:k=4:=by omega
   subst hk4
   have hAll:∀ i,i < 4→IsC (S i) (gadd (p i) (q i)):=fun i (hi:i < 4)=>hS.out.all (i:=i) hi
   have c0:=hF.out.1 0 (by omega)
   have c1:=hF.out.1 1 (by omega)
   have c2:=hF.out.1 2 (by omega)
   have c3:=hF.out.1 3 (by omega)
   have d0:=hR.out.1 0 (by omega)
   have d1:=hR.out.1 1 (by omega)
   have d2:=hR.out.1 2 (by omega)
   have d3:=hR.out.1 3 (by omega)
   have f0:=hR.out.2.1 0 (by omega)
   have f1:=hR.out.2.1 1 (by omega)
   have f2:=hR.out.2.1 2 (by omega)
   have f3:=hR.out.2.1 3 (by omega)
   clear hlt hk
   obtain⟨a0,b0,s0, -⟩:=hAll (0:Nat) (by omega)
   obtain⟨a1,b1,s1, -⟩:=hAll (1:Nat) (by omega)
   obtain⟨a2,b2,s2, -⟩:=hAll (2:Nat) (by omega)
   obtain⟨a3,b3,s3, -⟩:=hAll (3:Nat) (by omega)
   have t0:=st_c a0 b0
   have t1:=st_c a1 b1
   have t2:=st_c a2 b2
   have t3:=st_c a3 b3
   have HA:=hid hAll
   clear hAll
   have HS0:=hid s0
   have HS1:=hid s1
   have HS2:=hid s2
   have HS3:=hid s3
   go_wp2
   refine bodyPost_ret (Kit.za6 rfl _ _ (w.heap.size+1+1) 0 [.complex .f64 a0 b0,.complex .f64 a1 b1,.complex .f64 a2 b2,.complex .f64 a3 b3] _ rfl (zan (by go_cell) (by go_cell) (by go_cell) (by go_cell)) Tryz.underlying217 rfl (by kernel_rfl)) rfl ?_
   refine⟨⟨S,?_,HA.out⟩,?_⟩
   ·unfold agg4
    rw [HS0.out,HS1.out,HS2.out,HS3.out]
   ·have:=hBw.out
    go_grown
theorem times_to (X Y:Nat→Value) (p q:Nat→G) (A B:Nat) (hA:A < 2 ^ 53) (hB:B < 2 ^ 53) (hAB:A * B+A * B < 2 ^ 53) (hX:∀ i,i < 4→IsC (X i) (p i)) (hY:∀ i,i < 4→IsC (Y i) (q i)) (hp:∀ i,Bd A (p i)) (hq:∀ i,Bd B (q i)) (w:World) :
  Calls Tryz.prog 172 #[agg4 X,agg4 Y] w fun e' w'=>(∃ S,e'=.returned (agg4 S)∧∀ i,i < 4→IsC (S i) (gmul (p i) (q i)))∧Below w.heap.size w w':=by
 have HX:=hid hX
 have HY:=hid hY
 have HP:=hid hp
 have HQ:=hid hq
 have HAB:=hid hAB
 clear hX hY hp hq hAB
 go_enter Tryz.func172,Tryz.ntmps172
 go_wp2_with fail
 go_loopw [7] (fun u wr=>∃ (k:Nat) (S:Nat→Value),k≤4∧u=.int .i64 k∧Hid (FillR (fun i=>gmul (p i) (q i)) k S)∧Hid (Four (w.heap.size+1+1+1) S wr)∧Hid (Four (w.heap.size+1+1) (fun _=>z0) wr)∧Hid (Four w.heap.size X wr)∧Hid (Four (w.heap.size+1) Y wr)∧Hid (Below w.heap.size w wr)) (fun u _=>4 - (intOf u).toNat)
 case atStart =>
  have h0:=(Four.box w X 217).below ((((Below.refl _ _).alloc (le_refl _) (.cells #[Y 0,Y 1,Y 2,Y 3] 217)).alloc (by simp) (.cells #[z0,z0,z0,z0] 217)).alloc (by simp) (.cells #[z0,z0,z0,z0] 217)) (by simp)
  have h1:=(Four.box (w.alloc (.cells #[X 0,X 1,X 2,X 3] 217)) Y 217).below (((Below.refl _ _).alloc (le_refl _) (.cells #[z0,z0,z0,z0] 217)).alloc (by simp) (.cells #[z0,z0,z0,z0] 217)) (by simp)
  have h2:=(Four.new ((w.alloc (.cells #[X 0,X 1,X 2,X 3] 217)).alloc (.cells #[Y 0,Y 1,Y 2,Y 3] 217)) z0 217).below ((Below.refl _ _).alloc (le_refl _) (.cells #[z0,z0,z0,z0] 217)) (by simp)
  have h3:=Four.new (((w.alloc (.cells #[X 0,X 1,X 2,X 3] 217)).alloc (.cells #[Y 0,Y 1,Y 2,Y 3] 217)).alloc (.cells #[z0,z0,z0,z0] 217)) z0 217
  have e1:(w.alloc (.cells #[X 0,X 1,X 2,X 3] 217)).heap.size=w.heap.size+1:=by simp
  have e2:((w.alloc (.cells #[X 0,X 1,X 2,X 3] 217)).alloc (.cells #[Y 0,Y 1,Y 2,Y 3] 217)).heap.size=w.heap.size+1+1:=by simp
  have e3:(((w.alloc (.cells #[X 0,X 1,X 2,X 3] 217)).alloc (.cells #[Y 0,Y 1,Y 2,Y 3] 217)).alloc (.cells #[z0,z0,z0,z0] 217)).heap.size=w.heap.size+1+1+1:=by simp
  rw [e1] at h1
  rw [e2] at h2
  rw [e3] at h3
  exact⟨0,fun _=>z0,by omega,rfl,hid (FillR.start _),hid h3,hid h2,hid h0,hid h1,hid (((((Below.refl _ _).alloc (le_refl _) _).alloc (by simp) _).alloc (by simp;omega) _).alloc (by simp;omega) _)⟩
 case round =>
  obtain⟨k,S,hk,rfl,hS,hF,hR,hU,hV,hBw⟩:=hrel
  by_cases hlt:k < 4
  ·obtain⟨x,hx1,hx2⟩:=IsC.mul (P:=Tryz.prog) (HX.out k hlt) (HY.out k hlt) (HP.out k) (HQ.out k) hA hB HAB.out
   have HT:=hid (hS.out.step hx2)
   have HG:=hid (hF.out.set hlt x)
   have HR1:=hid (hR.out.other (g':=w.heap.size+1+1+1) (k:=k) x (by omega))
   have HU1:=hid (hU.out.other (g':=w.heap.size+1+1+1) (k:=k) x (by omega))
   have HV1:=hid (hV.out.other (g':=w.heap.size+1+1+1) (k:=k) x (by omega))
   have HB1:=hid (hBw.out.setCell (p:=⟨w.heap.size+1+1+1,k,none⟩) (by show w.heap.size≤w.heap.size+1+1+1;omega) x)
   obtain⟨xa,xb,rfl, -⟩:=hx2
   have hst:=st_c xa xb
   have c0:=hU.out.1 0 (by omega)
   have c1:=hU.out.1 1 (by omega)
   have c2:=hU.out.1 2 (by omega)
   have c3:=hU.out.1 3 (by omega)
   have d0:=hV.out.1 0 (by omega)
   have d1:=hV.out.1 1 (by omega)
   have d2:=hV.out.1 2 (by omega)
   have d3:=hV.out.1 3 (by omega)
   have e0:=hF.out.1 0 (by omega)
   have e1:=hF.out.1 1 (by omega)
   have e2:=hF.out.1 2 (by omega)
   have e3:=hF.out.1 3 (by omega)
   have f0:=hF.out.2.1 0 (by omega)
   have f1:=hF.out.2.1 1 (by omega)
   have f2:=hF.out.2.1 2 (by omega)
   have f3:=hF.out.2.1 3 (by omega)
   obtain rfl | rfl | rfl | rfl:=lt4 hlt
   all_goals go_wp2
   ·go_region_held3 (fun W=>W.cell? ⟨w.heap.size,0,none⟩=some (X 0)∧W.cell? ⟨w.heap.size+1,0,none⟩=some (Y 0)) (first | exact⟨HU1.out.1 0 (by omega),HV1.out.1 0 (by omega)⟩ | (go_keep;done)) (fail)
    go_wp2
    go_roundw
    case rel=>exact⟨_,_,by omega,by go_num,HT,hid HG.out.drew,hid HR1.out.drew,hid HU1.out.drew,hid HV1.out.drew,hid HB1.out.drew⟩
    case measure=>simp [intOf]
   ·go_region_held3 (fun W=>W.cell? ⟨w.heap.size,1,none⟩=some (X 1)∧W.cell? ⟨w.heap.size+1,1,none⟩=some (Y 1)) (first | exact⟨HU1.out.1 1 (by omega),HV1.out.1 1 (by omega)⟩ | (go_keep;done)) (fail)
    go_wp2
    go_roundw
    case rel=>exact⟨_,_,by omega,by go_num,HT,hid HG.out.drew,hid HR1.out.drew,hid HU1.out.drew,hid HV1.out.drew,hid HB1.out.drew⟩
    case measure=>simp [intOf]
   ·go_region_held3 (fun W=>W.cell? ⟨w.heap.size,2,none⟩=some (X 2)∧W.cell? ⟨w.heap.size+1,2,none⟩=some (Y 2)) (first | exact⟨HU1.out.1 2 (by omega),HV1.out.1 2 (by omega)⟩ | (go_keep;done)) (fail)
    go_wp2
    go_roundw
    case rel=>exact⟨_,_,by omega,by go_num,HT,hid HG.out.drew,hid HR1.out.drew,hid HU1.out.drew,hid HV1.out.drew,hid HB1.out.drew⟩
    case measure=>simp [intOf]
   ·go_region_held3 (fun W=>W.cell? ⟨w.heap.size,3,none⟩=some (X 3)∧W.cell? ⟨w.heap.size+1,3,none⟩=some (Y 3)) (first | exact⟨HU1.out.1 3 (by omega),HV1.out.1 3 (by omega)⟩ | (go_keep;done)) (fail)
    go_wp2
    go_roundw
    case rel=>exact⟨_,_,by omega,by go_num,HT,hid HG.out.drew,hid HR1.out.drew,hid HU1.out.drew,hid HV1.out.drew,hid HB1.out.drew⟩
    case measure=>simp [intOf]
  ·have hk4:k=4:=by omega
   subst hk4
   have hAll:∀ i,i < 4→IsC (S i) (gmul (p i) (q i)):=fun i (hi:i < 4)=>hS.out.all (i:=i) hi
   have c0:=hF.out.1 0 (by omega)
   have c1:=hF.out.1 1 (by omega)
   have c2:=hF.out.1 2 (by omega)
   have c3:=hF.out.1 3 (by omega)
   have d0:=hR.out.1 0 (by omega)
   have d1:=hR.out.1 1 (by omega)
   have d2:=hR.out.1 2 (by omega)
   have d3:=hR.out.1 3 (by omega)
   have f0:=hR.out.2.1 0 (by omega)
   have f1:=hR.out.2.1 1 (by omega)
   have f2:=hR.out.2.1 2 (by omega)
   have f3:=hR.out.2.1 3 (by omega)
   clear hlt hk
   obtain⟨a0,b0,s0, -⟩:=hAll (0:Nat) (by omega)
   obtain⟨a1,b1,s1, -⟩:=hAll (1:Nat) (by omega)
   obtain⟨a2,b2,s2, -⟩:=hAll (2:Nat) (by omega)
   obtain⟨a3,b3,s3, -⟩:=hAll (3:Nat) (by omega)
   have t0:=st_c a0 b0
   have t1:=st_c a1 b1
   have t2:=st_c a2 b2
   have t3:=st_c a3 b3
   have HA:=hid hAll
   clear hAll
   have HS0:=hid s0
   have HS1:=hid s1
   have HS2:=hid s2
   have HS3:=hid s3
   go_wp2
   refine bodyPost_ret (Kit.za6 rfl _ _ (w.heap.size+1+1) 0 [.complex .f64 a0 b0,.complex .f64 a1 b1,.complex .f64 a2 b2,.complex .f64 a3 b3] _ rfl (zan (by go_cell) (by go_cell) (by go_cell) (by go_cell)) Tryz.underlying217 rfl (by kernel_rfl)) rfl ?_
   refine⟨⟨S,?_,HA.out⟩,?_⟩
   ·unfold agg4
    rw [HS0.out,HS1.out,HS2.out,HS3.out]
   ·have:=hBw.out
    go_grown
end CFour
end
section
namespace Kit
def zbr (w:World) (B:Nat) (k:IntKind) (A:Option Addr) (rows:List (List Int)):Prop :=
 ∃ vs:List Value,vs.length=rows.length∧Rd w B A vs∧∀ (i:Nat) (row:List Int),rows[i]?=some row→∃ (Ai:Option Addr) (n ci:Nat),row.length=n∧vs[i]?=some (.slice Ai n ci)∧n≤ci∧ci≤maxLen∧Rd w B Ai (row.map (.int k))
theorem zbr.below {w w':World} {B:Nat} {k:IntKind} {A:Option Addr} {rows:List (List Int)} (h:zbr w B k A rows) (hb:Below B w w'):zbr w' B k A rows:=by
 obtain⟨vs,h1,h2,h3⟩:=h
 refine⟨vs,h1,h2.below hb,fun i row hr=>?_⟩
 obtain⟨Ai,n,ci,e,a,b,c,d⟩:=h3 i row hr
 exact⟨Ai,n,ci,e,a,b,c,d.below hb⟩
theorem zbr.more {w:World} {B B':Nat} {k:IntKind} {A:Option Addr} {rows:List (List Int)} (h:zbr w B k A rows) (hb:B≤B'):zbr w B' k A rows:=by
 obtain⟨vs,h1,h2,h3⟩:=h
 refine⟨vs,h1,h2.more hb,fun i row hr=>?_⟩
 obtain⟨Ai,n,ci,e,a,b,c,d⟩:=h3 i row hr
 exact⟨Ai,n,ci,e,a,b,c,d.more hb⟩
theorem zbr.row {w:World} {B:Nat} {k:IntKind} {A:Option Addr} {rows:List (List Int)} (h:zbr w B k A rows) {i:Nat} (hi:i < rows.length) :
  ∃ (b o:Nat) (Ai:Option Addr) (n ci:Nat),A=some ⟨b,o,none⟩∧b < B∧w.cell? ⟨b,o+i,none⟩=some (.slice Ai n ci)∧rows[i].length=n∧n≤ci∧ci≤maxLen∧Rd w B Ai (rows[i].map (.int k)):=by
 obtain⟨vs,h1,h2,h3⟩:=h
 obtain⟨Ai,n,ci,e,a,b,c,d⟩:=h3 i _ (List.getElem?_eq_getElem hi)
 obtain⟨bb,o,rfl,hb,hc⟩:=h2.plain (by omega)
 exact⟨bb,o,Ai,n,ci,rfl,hb,hc i _ a,e,b,c,d⟩
section
variable {H:Type} {enc:TypeId × Value→H} {P:Program} {w:World} {base b0:Nat} {spare:Nat→Bool} {held:Bool} {r:Reach}
end
end Kit
end
section
namespace Round
open Go
section
variable {F:Fence} {n:Nat} {P:Program} {ops:Array Oper} {Q:Exit→Act→World→Prop} {md:Region.Mode}
def Norm (Q:Exit→Act→World→Prop):Exit→Act→World→Prop
 | .normal,a,w=>Q .normal a w
 | _,_,_=>False
def Calm:Result Next→Prop
 | .ok (.enter _ _) _=>False
 | .ok (.row _ _) _=>False
 | .ok (.round _ _ _ _ _) _=>False
 | _=>True
def Still (F:Fence) (P:Program) (o:Oper):Prop :=
 (∀ c,o.op≠.defer c)∧∀ (ρ:Operand→Value) (w:World),(∀ f,o.about P w ρ=some f→F.fn f)∧Calm ((execOp ρ o).run P w)
theorem zbu (hst:∀ (i:Nat) (o:Oper),ops[i]?=some o→Still F P o):∀ (fuel:Nat) (listed:Array Bool) (a:Act) (w:World),
  wpAny P md ops (Norm Q) fuel listed a w→wpAnyIn F n P md ops Q fuel listed a w
 | 0,_,_,_,h=>h
 | fuel+1,listed,a,w,h=>by
   refine⟨h.1,fun i hi=>?_⟩
   have hop:=h.2 i hi
   unfold wpOp at hop
   unfold wpOpIn
   cases ho:ops[i]? with
   | none =>
     simp only [ho] at hop
     exact zbu hst fuel _ _ _ hop
   | some o =>
     simp only [ho] at hop
     obtain⟨h1,h2⟩:=hst i o ho
     obtain⟨h3,h4⟩:=h2 a.eval w
     by_cases hw:Region.wanted o (yielded ops a.tmps)=true
     ·simp only [hw,if_true] at hop ⊢
      rcases hop with hop | ⟨_,_,_,hF⟩
      ·refine⟨h3,?_⟩
       rw [Oper.semAt_eq _ _ _ h1]
       unfold Oper.wp at hop
       generalize (execOp a.eval o).run P w=r at hop h4
       cases r with
       | ok x w' =>
         cases x <;> first
          | exact zbu hst fuel _ _ _ hop
          | exact h4.elim
          | exact (hop:False).elim
       | halt x w' =>
         cases x <;> first | exact hop.elim | exact (hop:False).elim
      ·exact hF.elim
     ·simp only [hw,if_false,Bool.false_eq_true] at hop ⊢
      exact⟨h3,zbu hst fuel _ _ _ hop⟩
theorem region_round {id:Nat} {a:Act} {w:World} (hm:P.follows .mixedOrders=true) (hst:∀ (i:Nat) (o:Oper),ops[i]?=some o→Still F P o)
  (h:wpAny P .any ops (Norm Q) ops.size (Array.replicate ops.size false) a w.drew):(Code.region id ops true).wpIn F n P Q a w :=
 wpIn_region_any hm (zbu hst _ _ _ _ h)
theorem calm_value (s:Sem Value) (w:World):Calm ((do pure (.value (← s)):Sem Next).run P w):=by
 rw [Sem.run_bind]
 cases s.run P w with
 | ok x w'=>trivial
 | halt x w'=>trivial
theorem calm_then (r:Result Value):Calm (r.andThen fun a w'=>Result.ok (Next.value a) w'):=by
 cases r with
 | ok x w'=>trivial
 | halt x w'=>trivial
theorem still_of_list {l:List Oper} (h:∀ o∈l,Still F P o):∀ (i:Nat) (o:Oper),l.toArray[i]?=some o→Still F P o:=fun i o ho =>
 h o (List.mem_of_getElem? (by simpa using ho))
theorem still_move (d:Option Tmp) (x:Operand) (t:TypeId) (p:String) (e:Array Edge) (g:Option (Nat × Bool)):Still F P { dst:=d,op:=.move x,type:=t,pos:=p,after:=e,guard:=g } :=
 ⟨(fun c h=>by cases h),fun ρ w=>⟨fun f h=>by simp [Oper.about] at h,trivial⟩⟩
theorem still_assign (d:Option Tmp) (x:Operand) (t:TypeId) (p:String) (e:Array Edge) (g:Option (Nat × Bool)):Still F P { dst:=d,op:=.assign x,type:=t,pos:=p,after:=e,guard:=g } :=
 ⟨(fun c h=>by cases h),fun ρ w=>⟨fun f h=>by simp [Oper.about] at h,trivial⟩⟩
theorem still_load (d:Option Tmp) (T:TypeId) (x:Operand) (t:TypeId) (p:String) (e:Array Edge) (g:Option (Nat × Bool)):Still F P { dst:=d,op:=.load T x,type:=t,pos:=p,after:=e,guard:=g } :=
 ⟨(fun c h=>by cases h),fun ρ w=>⟨fun f h=>by simp [Oper.about] at h,calm_value _ w⟩⟩
theorem still_builtin_min (d:Option Tmp) (xs:Array Operand) (ts:Array TypeId) (t:TypeId) (p:String) (e:Array Edge) (g:Option (Nat × Bool)):Still F P { dst:=d,op:=.call { callee:=.builtin .min,args:=xs,argTypes:=ts },type:=t,pos:=p,after:=e,guard:=g } :=
 ⟨(fun c h => by cases h), fun ρ w => ⟨fun f h => by simp [Oper.about, resolve, go_sem] at h, by
   simp only [execOp,resolve,invoke,builtin,Sem.run_bind,Sem.run_pure,Result.andThen_ok]
   exact calm_then _⟩⟩
end
end Round
end
end Go.Proofs.YtahekhpeomcfjaaGreatDoor
