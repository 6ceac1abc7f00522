/- -/
import Derived.Test.YtfgdfignoakkaaaGreatDoorGBT18
open Go.Lib (hid)
open Nat (le_refl lt_of_succ_lt lt_succ_self)
set_option linter.unusedVariables false
set_option linter.unusedSimpArgs false
set_option maxRecDepth 100000
set_option maxHeartbeats 16000000
namespace Go.Proofs.YtfgdfignoakkaaaGreatDoor
namespace CConv
end CConv
namespace CFix
end CFix
namespace CKind
end CKind
namespace CSat
end CSat
namespace CShape
end CShape
namespace CTensor
end CTensor
open Go Go.ChangeShapes Go.WideShapes Go.ChangeAt Go.RowKit Go.Deep
section
namespace CGraph
open Plain CSat CFix CShape CTensor CConv CKind
theorem info_shape:(Tryz.prog.info? 23).map (·.size)=some 3:=by kernel_rfl
theorem tri_one (a b c:Int):(#[.int .i64 a,.int .i64 b,.int .i64 c]:Array Value).all (·.oneCell')=true:=by simp [Value.oneCell']
theorem there_below {b n B:Nat} {w w':World} (h:w.there b 0 n) (hB:b < B) (hb:Below B w w'):w'.there b 0 n:=fun j hj=>by
 have h1:w'.cell? ⟨b,0+j,none⟩=w.cell? ⟨b,0+j,none⟩:=hb.cell (p:=⟨b,0+j,none⟩) hB
 have h2:w'.frozen? ⟨b,0+j,none⟩=w.frozen? ⟨b,0+j,none⟩:=World.frozen?_of_block (hb.block b hB)
 rw [h1,h2];exact h j hj
def NxS (w:World) (x:Nd) (w':World):Prop:=NdAt w.heap.size x w'∧w'.there (w.heap.size+1) 0 3∧Below w.heap.size w w'∧w.heap.size+1 < w'.heap.size
theorem NxS.below {w:World} {x:Nd} {w' w2:World} (h:NxS w x w') (hb:Below w'.heap.size w' w2):NxS w x w2 :=
 ⟨h.1.below (by have:=h.2.2.2;omega) hb,there_below h.2.1 h.2.2.2 hb,h.2.2.1.trans (hb.mono (by have:=h.2.2.2;omega)),Nat.lt_of_lt_of_le h.2.2.2 hb.size⟩
theorem setCells_below:∀ (vs:List Value) (b o:Nat) (w:World),Below b w (w.setCells b o vs)∧(w.setCells b o vs).heap.size=w.heap.size:=by
 intro vs
 induction vs with
 | nil=>intro b o w;exact⟨Below.refl _ _,rfl⟩
 | cons v vs ih=>intro b o w;exact⟨((Below.refl b w).setCell (p:=⟨b,o,none⟩) (le_refl _) v).trans (ih b (o+1) _).1,(ih b (o+1) (w.setCell ⟨b,o,none⟩ v)).2.trans (by simp [World.setCell])⟩
theorem NxS.stored {w:World} {x:Nd} {w':World} (h:NxS w x w') (vs:Array Value):NxS w x (w'.setCells (w.heap.size+1) 0 vs.toList):=by
 obtain⟨h1,h2⟩:=setCells_below vs.toList (w.heap.size+1) 0 w'
 exact⟨h.1.below (lt_succ_self _) h1,World.there_setCells h.2.1 _ _ _,h.2.2.1.trans (h1.mono (by omega)),by rw [h2];exact h.2.2.2⟩
theorem NxS.new (x:Nd) (w:World):NxS w x ((w.alloc (.cells x.val 54)).alloc (.cells #[.int .i64 0,.int .i64 0,.int .i64 0] 23)):=by
 have s1:(w.alloc (.cells x.val 54)).heap.size=w.heap.size+1:=by simp
 refine⟨(NdAt.new x _ w).below (B:=w.heap.size+1) (by omega) ((Below.refl _ _).alloc (by simp) _),?_,((Below.refl _ _).alloc (le_refl _) _).alloc (by simp) _,by simp⟩
 intro j hj
 rw [Nat.zero_add, ← s1]
 refine⟨?_,?_⟩
 ·rw [Kit.zab]
  match j,hj with
  | 0,_=>rfl
  | 1,_=>rfl
  | 2,_=>rfl
 ·have hh:((w.alloc (.cells x.val 54)).alloc (.cells #[.int .i64 0,.int .i64 0,.int .i64 0] 23)).heap[(w.alloc (.cells x.val 54)).heap.size]?=some (.cells #[.int .i64 0,.int .i64 0,.int .i64 0] 23):=heap_alloc_new _ _
  simp only [World.frozen?,hh]
  rfl
theorem tvV_at {L:List Tri} {n k:Nat} (hn:L.length=n) (hk:k < n):∃ a,L[k]?=some a∧L.getD k tri0=a:=by
 have h:k < L.length:=by omega
 refine⟨L[k],List.getElem?_eq_getElem h,?_⟩
 rw [List.getD_eq_getElem?_getD,List.getElem?_eq_getElem h];rfl
def NextPost (x:Nd) (L:List Tri) (w:World) (r:Ending) (w':World):Prop :=
 ∃ u:Tri,r=.returned (.tuple #[.agg #[.int .i64 u.1,.int .i64 u.2.1,.int .i64 u.2.2],.int .i64 (stopZ x L)])∧(stopZ x L=0→u=nextT x L)∧Below w.heap.size w w'
theorem next_bad (x:Nd) (hx:x.Small) (L:List Tri) (n c:Nat) (A:Option Addr) (hz:x.checkZ≠0) (w:World) (hT:zad w) :
  Calls Tryz.prog 129 #[.slice A n c,.agg x.val] w (NextPost x L w):=by
 have hst:stopZ x L=x.checkZ:=by unfold stopZ;rw [if_pos hz]
 have HST:=hid hst
 have HN:=hid (NxS.new x w)
 have HT:=hid hT
 have HX:=hid hx
 obtain⟨z,hzz⟩:∃ z,x.checkZ=z:=⟨_,rfl⟩
 have hz1:(z != 0)=true:=by rw [← hzz];simpa using hz
 have hz2:¬ z=0:=by rw [← hzz];exact hz
 have HZZ:=hid hzz
 clear hst hT hx hz hzz
 go_enter Tryz.func129,Tryz.ntmps129
 go_upto_region 1 with fail
 generalize (w.alloc (.cells x.val 54)).alloc (.cells #[.int .i64 0,.int .i64 0,.int .i64 0] 23)=W0 at HN ⊢
 go_wp2_with (first
  | (refine zac rfl _ rfl w.heap.size x rfl HN.out.1 ?_)
  | (go_at_call 144
     refine (zay x HX.out _ (HT.out.below HN.out.2.2.1 HT.out.size)).mono ?_
     rintro e w1 ⟨rfl,hb⟩
     rw [HZZ.out]
     have HN1:=hid (HN.out.below hb)
     clear hb)
  | (refine wpList_store_mid rfl 23 _ _ rfl (w.heap.size+1) 0 #[.int .i64 0,.int .i64 0,.int .i64 0] rfl rfl HN1.out.2.1 info_shape (tri_one _ _ _) ?_
     have HRG:=hid (World.rangeAt_setCells_same w1 (w.heap.size+1) 0 (#[.int .i64 0,.int .i64 0,.int .i64 0]:Array Value).toList HN1.out.2.1)
     have HN3:=hid (HN1.out.stored (#[.int .i64 0,.int .i64 0,.int .i64 0]:Array Value))
     generalize w1.setCells (w.heap.size+1) 0 (#[.int .i64 0,.int .i64 0,.int .i64 0]:Array Value).toList=W3 at HN3 HRG ⊢))
 refine bodyPost_ret (Kit.zaa rfl _ _ (w.heap.size+1) 0 [.int .i64 0,.int .i64 0,.int .i64 0] _ rfl HRG.out Tryz.underlying23 rfl (by kernel_rfl)) rfl ?_
 exact⟨(0,0,0),by rw [HST.out,HZZ.out];rfl,(fun h=>by rw [HST.out,HZZ.out] at h;exact absurd h hz2),HN3.out.2.2.1⟩
theorem next_lost (x:Nd) (hx:x.Small) (L:List Tri) (n c:Nat) (hn:L.length=n) (hn1:n≤100) (A:Option Addr) (hz:x.checkZ=0) (ht:zb2 x n=false) (w:World) (hT:zad w) :
  Calls Tryz.prog 129 #[.slice A n c,.agg x.val] w (NextPost x L w):=by
 have hst:stopZ x L=8:=by unfold stopZ;rw [if_neg (by simp [hz]),hn,if_pos ht]
 have HST:=hid hst
 have HN:=hid (NxS.new x w)
 have HT:=hid hT
 have HX:=hid hx
 have HZZ:=hid hz
 have he:earB (opL x) n=false:=by rw [ear_there,ht]
 have HE:=hid he
 have hol:(opL x).length≤1000:=by unfold opL;split <;> simp
 have HOL:=hid hol
 clear hst hT hx hz ht he hol hn
 go_enter Tryz.func129,Tryz.ntmps129
 go_upto_region 1 with fail
 generalize (w.alloc (.cells x.val 54)).alloc (.cells #[.int .i64 0,.int .i64 0,.int .i64 0] 23)=W0 at HN ⊢
 go_wp2_with (first
  | (refine zac rfl _ rfl w.heap.size x rfl HN2.out.1 ?_)
  | (refine zac rfl _ rfl w.heap.size x rfl HN1.out.1 ?_)
  | (refine zac rfl _ rfl w.heap.size x rfl HN.out.1 ?_)
  | (go_at_call 144
     refine (zay x HX.out _ (HT.out.below HN.out.2.2.1 HT.out.size)).mono ?_
     rintro e w1 ⟨rfl,hb⟩
     rw [HZZ.out]
     have HN1:=hid (HN.out.below hb)
     clear hb)
  | (go_at_call 146
     refine (operands_to x _).mono ?_
     rintro e w2 ⟨bo,rfl, -,hr,hb⟩
     have HN2:=hid (HN1.out.below hb)
     have HRO:=hid hr
     clear hb hr)
  | (go_at_call 145
     refine (earlier_to (opL x) _ rfl HOL.out (n:Int) _ _ _ HRO.out).mono ?_
     rintro e w3 ⟨rfl,rfl⟩
     rw [HE.out])
  | (refine wpList_store_mid rfl 23 _ _ rfl (w.heap.size+1) 0 #[.int .i64 0,.int .i64 0,.int .i64 0] rfl rfl HN2.out.2.1 info_shape (tri_one _ _ _) ?_
     have HRG:=hid (World.rangeAt_setCells_same w2 (w.heap.size+1) 0 (#[.int .i64 0,.int .i64 0,.int .i64 0]:Array Value).toList HN2.out.2.1)
     have HN3:=hid (HN2.out.stored (#[.int .i64 0,.int .i64 0,.int .i64 0]:Array Value))
     generalize w2.setCells (w.heap.size+1) 0 (#[.int .i64 0,.int .i64 0,.int .i64 0]:Array Value).toList=W3 at HN3 HRG ⊢))
 refine bodyPost_ret (Kit.zaa rfl _ _ (w.heap.size+1) 0 [.int .i64 0,.int .i64 0,.int .i64 0] _ rfl HRG.out Tryz.underlying23 rfl (by kernel_rfl)) rfl ?_
 exact⟨(0,0,0),by rw [HST.out];rfl,(fun h=>by rw [HST.out] at h;exact absurd h (by decide)),HN3.out.2.2.1⟩
theorem next_yes (x:Nd) (hx:x.Small) (L:List Tri) (n c:Nat) (hn:L.length=n) (hn1:n≤100) (A:Option Addr) (hz:x.checkZ=0) (ht:zb2 x n=true) (w:World) (hT:zad w) (hr:Kit.Rd w w.heap.size A (tvV L)) :
  Calls Tryz.prog 129 #[.slice A n c,.agg x.val] w (NextPost x L w):=by
 have HN:=hid (NxS.new x w)
 have HT:=hid hT
 have HX:=hid hx
 have HZZ:=hid hz
 have he:earB (opL x) n=true:=by rw [ear_there,ht]
 have HE:=hid he
 have hol:(opL x).length≤1000:=by unfold opL;split <;> simp
 have HOL:=hid hol
 have ht2:0≤x.na∧x.na < n∧(x.kd=6→0≤x.nb∧x.nb < n):=of_decide_eq_true ht
 have hnb:0≤x.nb∧x.nb < n:=by
  by_cases h6:x.kd=6
  ·exact ht2.2.2 h6
  ·have:=check_nb hz h6;omega
 obtain⟨ka,hka⟩:∃ ka:Nat,x.na=ka:=⟨x.na.toNat,by omega⟩
 obtain⟨kb,hkb⟩:∃ kb:Nat,x.nb=kb:=⟨x.nb.toNat,by omega⟩
 obtain⟨a,ha1,ha2⟩:=tvV_at (k:=ka) hn (by omega)
 obtain⟨b,hb1,hb2⟩:=tvV_at (k:=kb) hn (by omega)
 obtain⟨bl,o,rfl,hbl,hcell⟩:=tv_cells hr (by omega)
 obtain⟨u0,u1,u2,hu⟩:=x.sh_three a.1 a.2.1 a.2.2 b.1 b.2.1 b.2.2
 obtain⟨u,hue⟩:∃ u:Tri,u=(u0,u1,u2):=⟨_,rfl⟩
 obtain⟨e,hee⟩:∃ e,x.shE a.1 a.2.1 a.2.2 b.1 b.2.1 b.2.2=e:=⟨_,rfl⟩
 have hST:stopZ x L=e∧nextT x L=u:=by
  have h1:L.getD x.na.toNat tri0=a:=by rw [hka];exact ha2
  by_cases h6:x.kd=6
  ·have h2:L.getD (sndZ x).toNat tri0=b:=by unfold sndZ;rw [if_pos h6,hkb];exact hb2
   refine⟨?_,?_⟩
   ·unfold stopZ nextE;rw [if_neg (by simp [hz]),hn,if_neg (by simp [ht]),h1,h2];exact hee
   ·unfold nextT;rw [h1,h2,hu,hue];rfl
  ·obtain⟨i1,i2⟩:=sh_indep x h6 a.1 a.2.1 a.2.2 (L.getD (sndZ x).toNat tri0).1 (L.getD (sndZ x).toNat tri0).2.1 (L.getD (sndZ x).toNat tri0).2.2 b.1 b.2.1 b.2.2
   refine⟨?_,?_⟩
   ·unfold stopZ nextE;rw [if_neg (by simp [hz]),hn,if_neg (by simp [ht]),h1,i1];exact hee
   ·unfold nextT;rw [h1,i2,hu,hue];rfl
 have HST:=hid hST
 have CS:=hid (shape_to x a.1 a.2.1 a.2.2 b.1 b.2.1 b.2.2 e u.1 u.2.1 u.2.2 hee (by rw [hu,hue]))
 have i0:(0:Int)≤(ka:Int):=by omega
 have i1:(ka:Int) < (n:Int):=by omega
 have j0:(0:Int)≤(kb:Int):=by omega
 have j1:(kb:Int) < (n:Int):=by omega
 have hrA:=hcell ka a ha1
 have hrB:=hcell kb b hb1
 have HCA:Hid (∀ wS,Below w.heap.size w wS→wS.cell? ⟨bl,o+ka * 3,none⟩=some (.int .i64 a.1)∧wS.cell? ⟨bl,o+ka * 3+1,none⟩=some (.int .i64 a.2.1)∧wS.cell? ⟨bl,o+ka * 3+2,none⟩=some (.int .i64 a.2.2)) :=
  hid (fun wS h=>⟨(h.cell (p:=⟨bl,o+ka * 3,none⟩) hbl).trans (hrA 0 _ rfl),(h.cell (p:=⟨bl,o+ka * 3+1,none⟩) hbl).trans (hrA 1 _ rfl),(h.cell (p:=⟨bl,o+ka * 3+2,none⟩) hbl).trans (hrA 2 _ rfl)⟩)
 have HCB:Hid (∀ wS,Below w.heap.size w wS→wS.cell? ⟨bl,o+kb * 3,none⟩=some (.int .i64 b.1)∧wS.cell? ⟨bl,o+kb * 3+1,none⟩=some (.int .i64 b.2.1)∧wS.cell? ⟨bl,o+kb * 3+2,none⟩=some (.int .i64 b.2.2)) :=
  hid (fun wS h=>⟨(h.cell (p:=⟨bl,o+kb * 3,none⟩) hbl).trans (hrB 0 _ rfl),(h.cell (p:=⟨bl,o+kb * 3+1,none⟩) hbl).trans (hrB 1 _ rfl),(h.cell (p:=⟨bl,o+kb * 3+2,none⟩) hbl).trans (hrB 2 _ rfl)⟩)
 have hA1:Hid (x.val.toList[1]?=some (.int .i64 (ka:Int))):=hid (by rw [← hka];rfl)
 have hB1:Hid (x.val.toList[2]?=some (.int .i64 (kb:Int))):=hid (by rw [← hkb];rfl)
 clear hT hx hz ht he hol hn ht2 hnb hka hkb ha1 ha2 hb1 hb2 hr hbl hcell hu hue hee hST hrA hrB
 go_enter Tryz.func129,Tryz.ntmps129
 go_upto_region 1 with fail
 generalize (w.alloc (.cells x.val 54)).alloc (.cells #[.int .i64 0,.int .i64 0,.int .i64 0] 23)=W0 at HN ⊢
 go_upto_region 6 with (first
  | (refine zac rfl _ rfl w.heap.size x rfl HN2.out.1 ?_)
  | (refine zac rfl _ rfl w.heap.size x rfl HN1.out.1 ?_)
  | (refine zac rfl _ rfl w.heap.size x rfl HN.out.1 ?_)
  | (go_at_call 144
     refine (zay x HX.out _ (HT.out.below HN.out.2.2.1 HT.out.size)).mono ?_
     rintro e w1 ⟨rfl,hb⟩
     rw [HZZ.out]
     have HN1:=hid (HN.out.below hb)
     clear hb)
  | (go_at_call 146
     refine (operands_to x _).mono ?_
     rintro e w2 ⟨bo,rfl, -,hr,hb⟩
     have HN2:=hid (HN1.out.below hb)
     have HRO:=hid hr
     clear hb hr)
  | (go_at_call 145
     refine (earlier_to (opL x) _ rfl HOL.out (n:Int) _ _ _ HRO.out).mono ?_
     rintro e w3 ⟨rfl,rfl⟩
     rw [HE.out]))
 ·have HN9:=hid (HN2.out.below (Below.refl _ w2).drew)
  clear HN HN1 HN2 HRO
  refine wp_region_held_drew (S:=NxS w x) (by kernel_rfl) HN9.out (fun hHeld=>?_)
  clear HN9
  generalize w2.drew=W1 at hHeld ⊢
  refine Tk.t 0 (v:=.agg x.val) rfl (zav _ rfl (by rfl) _ x rfl (fun _ h=>h.1)) (by assumption) ?_
  try simp only [Tk.put]
  refine Tk.x 1 rfl ?_
  try simp only [Tk.put]
  refine Tk.x 2 rfl ?_
  try simp only [Tk.put]
  refine Tk.y 3 (v:=.int .i64 (ka:Int)) rfl ?_ ?_
  ·intro wS hSw
   have q:=hSw.1.at 1 (.int .i64 (ka:Int)) hA1.out
   first | (go_simp;done) | (go_simp;with_reducible rfl)
  try simp only [Tk.put]
  refine Tk.x 4 rfl ?_
  try simp only [Tk.put]
  refine Tk.y 5 (v:=.agg #[.int .i64 a.1,.int .i64 a.2.1,.int .i64 a.2.2]) rfl ?_ ?_
  ·intro wS hSw
   obtain⟨q0,q1,q2⟩:=HCA.out wS hSw.2.2.1
   first | (go_simp;done) | (go_simp;with_reducible rfl)
  try simp only [Tk.put]
  refine Tk.x 6 rfl ?_
  try simp only [Tk.put]
  refine Tk.x 7 rfl ?_
  try simp only [Tk.put]
  refine Tk.y 8 (v:=.int .i64 (kb:Int)) rfl ?_ ?_
  ·intro wS hSw
   have q:=hSw.1.at 2 (.int .i64 (kb:Int)) hB1.out
   first | (go_simp;done) | (go_simp;with_reducible rfl)
  try simp only [Tk.put]
  refine Tk.x 9 rfl ?_
  try simp only [Tk.put]
  refine Tk.y 10 (v:=.agg #[.int .i64 b.1,.int .i64 b.2.1,.int .i64 b.2.2]) rfl ?_ ?_
  ·intro wS hSw
   obtain⟨q0,q1,q2⟩:=HCB.out wS hSw.2.2.1
   first | (go_simp;done) | (go_simp;with_reducible rfl)
  try simp only [Tk.put]
  refine Tk.s 11 rfl (fun Kq hK=>?_)
  go_simp
  go_at_call 147
  refine (CS.out _).mono ?_
  rintro e W2 ⟨rfl,hb⟩
  have hS2:=hHeld.below hb
  clear hHeld hb
  dsimp only
  refine hK.out _ _ hS2 (fun hHeld=>?_)
  clear hK Kq hS2
  try simp only [Tk.put]
  refine Tk.x 12 rfl ?_
  try simp only [Tk.put]
  refine Tk.x 13 rfl ?_
  try simp only [Tk.put]
  refine Tk.s 14 rfl (fun Kq hK=>?_)
  rw [if_pos (by rfl)]
  refine wp_store_mid 23 _ _ rfl (w.heap.size+1) 0 #[.int .i64 u.1,.int .i64 u.2.1,.int .i64 u.2.2] rfl rfl hHeld.2.1 info_shape (tri_one _ _ _) ?_
  have hS3:=hHeld.stored (#[.int .i64 u.1,.int .i64 u.2.1,.int .i64 u.2.2]:Array Value)
  have HRG:=hid (World.rangeAt_setCells_same W2 (w.heap.size+1) 0 (#[.int .i64 u.1,.int .i64 u.2.1,.int .i64 u.2.2]:Array Value).toList hHeld.2.1)
  clear hHeld
  generalize W2.setCells (w.heap.size+1) 0 (#[.int .i64 u.1,.int .i64 u.2.1,.int .i64 u.2.2]:Array Value).toList=W3 at hS3 HRG ⊢
  refine hK.out _ _ hS3 (fun hHeld=>?_)
  clear hK Kq hS3
  try simp only [Tk.put]
  refine Tk.x 15 rfl ?_
  try simp only [Tk.put]
  refine wpAnyH_done (by kernel_rfl) ?_ _
  go_wp2_with fail
  refine bodyPost_ret (Kit.zaa rfl _ _ (w.heap.size+1) 0 [.int .i64 u.1,.int .i64 u.2.1,.int .i64 u.2.2] _ rfl HRG.out Tryz.underlying23 rfl (by kernel_rfl)) rfl ?_
  exact⟨u,by rw [HST.out.1];rfl,fun _=>HST.out.2.symm,hHeld.2.2.1⟩
theorem next_to (x:Nd) (hx:x.Small) (L:List Tri) (n c:Nat) (hn:L.length=n) (hn1:n≤100) (A:Option Addr) (w:World) (hT:zad w) (hr:Kit.Rd w w.heap.size A (tvV L)) :
  Calls Tryz.prog 129 #[.slice A n c,.agg x.val] w (NextPost x L w):=by
 by_cases hz:x.checkZ=0
 ·cases ht:zb2 x n with
  | false=>exact next_lost x hx L n c hn hn1 A hz ht w hT
  | true=>exact next_yes x hx L n c hn hn1 A hz ht w hT hr
 ·exact next_bad x hx L n c A hz w hT
end CGraph
end
end Go.Proofs.YtfgdfignoakkaaaGreatDoor
