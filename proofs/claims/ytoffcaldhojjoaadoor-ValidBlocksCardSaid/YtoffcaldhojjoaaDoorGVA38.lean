/- -/
import Derived.Test.YtoffcaldhojjoaaDoorGVA37
open Go.Lib (hid)
open Nat (le_refl lt_of_succ_lt lt_succ_self)
set_option linter.unusedVariables false
set_option linter.unusedSimpArgs false
set_option maxRecDepth 100000
set_option maxHeartbeats 16000000
namespace Go.Proofs.YtoffcaldhojjoaaDoor
namespace CConv
end CConv
namespace CFix
end CFix
namespace CGraph
end CGraph
namespace CKind
end CKind
namespace CSat
end CSat
namespace CSpan
end CSpan
namespace CTensor
end CTensor
open Go Go.ChangeShapes Go.WideShapes Go.ChangeAt Go.RowKit Go.Deep
section
namespace CGraph
open Plain CSat CFix CShape CTensor CConv CKind
theorem info_shape:(Tryd.prog.info? 30).map (·.size)=some 3:=by kernel_rfl
theorem tri_one (a b c:Int):(#[.int .i64 a,.int .i64 b,.int .i64 c]:Array Value).all (·.oneCell')=true:=by simp [Value.oneCell']
theorem zby {b n B:Nat} {w w':World} (h:w.there b 0 n) (hB:b < B) (hb:Below B w w'):w'.there b 0 n:=fun j hj=>by
 have h1:w'.cell? ⟨b,0+j,none⟩=w.cell? ⟨b,0+j,none⟩:=hb.cell (p:=⟨b,0+j,none⟩) hB
 have h2:w'.frozen? ⟨b,0+j,none⟩=w.frozen? ⟨b,0+j,none⟩:=World.frozen?_of_block (hb.block b hB)
 rw [h1,h2];exact h j hj
def NxS (w:World) (x:Nd) (w':World):Prop:=NdAt w.heap.size x w'∧w'.there (w.heap.size+1) 0 3∧Below w.heap.size w w'∧w.heap.size+1 < w'.heap.size
theorem NxS.below {w:World} {x:Nd} {w' w2:World} (h:NxS w x w') (hb:Below w'.heap.size w' w2):NxS w x w2 :=
 ⟨h.1.below (by have:=h.2.2.2;omega) hb,zby h.2.1 h.2.2.2 hb,h.2.2.1.trans (hb.mono (by have:=h.2.2.2;omega)),Nat.lt_of_lt_of_le h.2.2.2 hb.size⟩
theorem setCells_below:∀ (vs:List Value) (b o:Nat) (w:World),Below b w (w.setCells b o vs)∧(w.setCells b o vs).heap.size=w.heap.size:=by
 intro vs
 induction vs with
 | nil=>intro b o w;exact⟨Below.refl _ _,rfl⟩
 | cons v vs ih=>intro b o w;exact⟨((Below.refl b w).setCell (p:=⟨b,o,none⟩) (le_refl _) v).trans (ih b (o+1) _).1,(ih b (o+1) (w.setCell ⟨b,o,none⟩ v)).2.trans (by simp [World.setCell])⟩
theorem NxS.stored {w:World} {x:Nd} {w':World} (h:NxS w x w') (vs:Array Value):NxS w x (w'.setCells (w.heap.size+1) 0 vs.toList):=by
 obtain⟨h1,h2⟩:=setCells_below vs.toList (w.heap.size+1) 0 w'
 exact⟨h.1.below (lt_succ_self _) h1,World.there_setCells h.2.1 _ _ _,h.2.2.1.trans (h1.mono (by omega)),by rw [h2];exact h.2.2.2⟩
theorem NxS.new (x:Nd) (w:World):NxS w x ((w.alloc (.cells x.val 67)).alloc (.cells #[.int .i64 0,.int .i64 0,.int .i64 0] 30)):=by
 have s1:(w.alloc (.cells x.val 67)).heap.size=w.heap.size+1:=by simp
 refine⟨(NdAt.new x _ w).below (B:=w.heap.size+1) (by omega) ((Below.refl _ _).alloc (by simp) _),?_,((Below.refl _ _).alloc (le_refl _) _).alloc (by simp) _,by simp⟩
 intro j hj
 rw [Nat.zero_add, ← s1]
 refine⟨?_,?_⟩
 ·rw [Kit.zal]
  match j,hj with
  | 0,_=>rfl
  | 1,_=>rfl
  | 2,_=>rfl
 ·have hh:((w.alloc (.cells x.val 67)).alloc (.cells #[.int .i64 0,.int .i64 0,.int .i64 0] 30)).heap[(w.alloc (.cells x.val 67)).heap.size]?=some (.cells #[.int .i64 0,.int .i64 0,.int .i64 0] 30):=heap_alloc_new _ _
  simp only [World.frozen?,hh]
  rfl
theorem tvV_at {L:List Tri} {n k:Nat} (hn:L.length=n) (hk:k < n):∃ a,L[k]?=some a∧L.getD k tri0=a:=by
 have h:k < L.length:=by omega
 refine⟨L[k],List.getElem?_eq_getElem h,?_⟩
 rw [List.getD_eq_getElem?_getD,List.getElem?_eq_getElem h];rfl
def NextPost (x:Nd) (L:List Tri) (w:World) (r:Ending) (w':World):Prop :=
 ∃ u:Tri,r=.returned (.tuple #[.agg #[.int .i64 u.1,.int .i64 u.2.1,.int .i64 u.2.2],.int .i64 (stopZ x L)])∧(stopZ x L=0→u=nextT x L)∧Below w.heap.size w w'
theorem next_bad (x:Nd) (hx:x.Small) (L:List Tri) (n c:Nat) (A:Option Addr) (hz:x.checkZ≠0) (w:World) (hT:zan w) :
  Calls Tryd.prog 33 #[.slice A n c,.agg x.val] w (NextPost x L w):=by
 have hst:stopZ x L=x.checkZ:=by unfold stopZ;rw [if_pos hz]
 have HST:=hid hst
 have HN:=hid (NxS.new x w)
 have HT:=hid hT
 have HX:=hid hx
 obtain⟨z,hzz⟩:∃ z,x.checkZ=z:=⟨_,rfl⟩
 have hz1:(z != 0)=true:=by rw [← hzz];simpa using hz
 have hz2:¬ z=0:=by rw [← hzz];exact hz
 have HZZ:=hid hzz
 clear hst hT hx hz hzz
 go_enter Tryd.func33,Tryd.ntmps33
 go_upto_region 1 with fail
 generalize (w.alloc (.cells x.val 67)).alloc (.cells #[.int .i64 0,.int .i64 0,.int .i64 0] 30)=W0 at HN ⊢
 go_wp2_with (first
  | (refine zac rfl _ rfl w.heap.size x rfl HN.out.1 ?_)
  | (go_at_call 52
     refine (zbh x HX.out _ (HT.out.below HN.out.2.2.1 HT.out.size)).mono ?_
     rintro e w1 ⟨rfl,hb⟩
     rw [HZZ.out]
     have HN1:=hid (HN.out.below hb)
     clear hb)
  | (refine wpList_store_mid rfl 30 _ _ rfl (w.heap.size+1) 0 #[.int .i64 0,.int .i64 0,.int .i64 0] rfl rfl HN1.out.2.1 info_shape (tri_one _ _ _) ?_
     have HRG:=hid (World.rangeAt_setCells_same w1 (w.heap.size+1) 0 (#[.int .i64 0,.int .i64 0,.int .i64 0]:Array Value).toList HN1.out.2.1)
     have HN3:=hid (HN1.out.stored (#[.int .i64 0,.int .i64 0,.int .i64 0]:Array Value))
     generalize w1.setCells (w.heap.size+1) 0 (#[.int .i64 0,.int .i64 0,.int .i64 0]:Array Value).toList=W3 at HN3 HRG ⊢))
 refine bodyPost_ret (Kit.zaa rfl _ _ (w.heap.size+1) 0 [.int .i64 0,.int .i64 0,.int .i64 0] _ rfl HRG.out Tryd.underlying30 rfl (by kernel_rfl)) rfl ?_
 exact⟨(0,0,0),by rw [HST.out,HZZ.out];rfl,(fun h=>by rw [HST.out,HZZ.out] at h;exact absurd h hz2),HN3.out.2.2.1⟩
theorem next_lost (x:Nd) (hx:x.Small) (L:List Tri) (n c:Nat) (hn:L.length=n) (hn1:n≤100) (A:Option Addr) (hz:x.checkZ=0) (ht:zbm x n=false) (w:World) (hT:zan w) :
  Calls Tryd.prog 33 #[.slice A n c,.agg x.val] w (NextPost x L w):=by
 have hst:stopZ x L=8:=by unfold stopZ;rw [if_neg (by simp [hz]),hn,if_pos ht]
 have HST:=hid hst
 have HN:=hid (NxS.new x w)
 have HT:=hid hT
 have HX:=hid hx
 have HZZ:=hid hz
 have he:earB (opL x) n=false:=by rw [ear_there,ht]
 have HE:=hid he
 have hol:(opL x).length≤1000:=by unfold opL;split <;> simp
 have HOL:=hid hol
 clear hst hT hx hz ht he hol hn
 go_enter Tryd.func33,Tryd.ntmps33
 go_upto_region 1 with fail
 generalize (w.alloc (.cells x.val 67)).alloc (.cells #[.int .i64 0,.int .i64 0,.int .i64 0] 30)=W0 at HN ⊢
 go_wp2_with (first
  | (refine zac rfl _ rfl w.heap.size x rfl HN2.out.1 ?_)
  | (refine zac rfl _ rfl w.heap.size x rfl HN1.out.1 ?_)
  | (refine zac rfl _ rfl w.heap.size x rfl HN.out.1 ?_)
  | (go_at_call 52
     refine (zbh x HX.out _ (HT.out.below HN.out.2.2.1 HT.out.size)).mono ?_
     rintro e w1 ⟨rfl,hb⟩
     rw [HZZ.out]
     have HN1:=hid (HN.out.below hb)
     clear hb)
  | (go_at_call 54
     refine (operands_to x _).mono ?_
     rintro e w2 ⟨bo,rfl, -,hr,hb⟩
     have HN2:=hid (HN1.out.below hb)
     have HRO:=hid hr
     clear hb hr)
  | (go_at_call 53
     refine (earlier_to (opL x) _ rfl HOL.out (n:Int) _ _ _ HRO.out).mono ?_
     rintro e w3 ⟨rfl,rfl⟩
     rw [HE.out])
  | (refine wpList_store_mid rfl 30 _ _ rfl (w.heap.size+1) 0 #[.int .i64 0,.int .i64 0,.int .i64 0] rfl rfl HN2.out.2.1 info_shape (tri_one _ _ _) ?_
     have HRG:=hid (World.rangeAt_setCells_same w2 (w.heap.size+1) 0 (#[.int .i64 0,.int .i64 0,.int .i64 0]:Array Value).toList HN2.out.2.1)
     have HN3:=hid (HN2.out.stored (#[.int .i64 0,.int .i64 0,.int .i64 0]:Array Value))
     generalize w2.setCells (w.heap.size+1) 0 (#[.int .i64 0,.int .i64 0,.int .i64 0]:Array Value).toList=W3 at HN3 HRG ⊢))
 refine bodyPost_ret (Kit.zaa rfl _ _ (w.heap.size+1) 0 [.int .i64 0,.int .i64 0,.int .i64 0] _ rfl HRG.out Tryd.underlying30 rfl (by kernel_rfl)) rfl ?_
 exact⟨(0,0,0),by rw [HST.out];rfl,(fun h=>by rw [HST.out] at h;exact absurd h (by decide)),HN3.out.2.2.1⟩
theorem next_yes (x:Nd) (hx:x.Small) (L:List Tri) (n c:Nat) (hn:L.length=n) (hn1:n≤100) (A:Option Addr) (hz:x.checkZ=0) (ht:zbm x n=true) (w:World) (hT:zan w) (hr:Kit.Rd w w.heap.size A (tvV L)) :
  Calls Tryd.prog 33 #[.slice A n c,.agg x.val] w (NextPost x L w):=by
 have HN:=hid (NxS.new x w)
 have HT:=hid hT
 have HX:=hid hx
 have HZZ:=hid hz
 have he:earB (opL x) n=true:=by rw [ear_there,ht]
 have HE:=hid he
 have hol:(opL x).length≤1000:=by unfold opL;split <;> simp
 have HOL:=hid hol
 have ht2:0≤x.na∧x.na < n∧(x.kd=6→0≤x.nb∧x.nb < n):=of_decide_eq_true ht
 have hnb:0≤x.nb∧x.nb < n:=by
  by_cases h6:x.kd=6
  ·exact ht2.2.2 h6
  ·have:=check_nb hz h6;omega
 obtain⟨ka,hka⟩:∃ ka:Nat,x.na=ka:=⟨x.na.toNat,by omega⟩
 obtain⟨kb,hkb⟩:∃ kb:Nat,x.nb=kb:=⟨x.nb.toNat,by omega⟩
 obtain⟨a,ha1,ha2⟩:=tvV_at (k:=ka) hn (by omega)
 obtain⟨b,hb1,hb2⟩:=tvV_at (k:=kb) hn (by omega)
 obtain⟨bl,o,rfl,hbl,hcell⟩:=tv_cells hr (by omega)
 obtain⟨u0,u1,u2,hu⟩:=x.sh_three a.1 a.2.1 a.2.2 b.1 b.2.1 b.2.2
 obtain⟨u,hue⟩:∃ u:Tri,u=(u0,u1,u2):=⟨_,rfl⟩
 obtain⟨e,hee⟩:∃ e,x.shE a.1 a.2.1 a.2.2 b.1 b.2.1 b.2.2=e:=⟨_,rfl⟩
 have hST:stopZ x L=e∧nextT x L=u:=by
  have h1:L.getD x.na.toNat tri0=a:=by rw [hka];exact ha2
  by_cases h6:x.kd=6
  ·have h2:L.getD (sndZ x).toNat tri0=b:=by unfold sndZ;rw [if_pos h6,hkb];exact hb2
   refine⟨?_,?_⟩
   ·unfold stopZ nextE;rw [if_neg (by simp [hz]),hn,if_neg (by simp [ht]),h1,h2];exact hee
   ·unfold nextT;rw [h1,h2,hu,hue];rfl
  ·obtain⟨i1,i2⟩:=sh_indep x h6 a.1 a.2.1 a.2.2 (L.getD (sndZ x).toNat tri0).1 (L.getD (sndZ x).toNat tri0).2.1 (L.getD (sndZ x).toNat tri0).2.2 b.1 b.2.1 b.2.2
   refine⟨?_,?_⟩
   ·unfold stopZ nextE;rw [if_neg (by simp [hz]),hn,if_neg (by simp [ht]),h1,i1];exact hee
   ·unfold nextT;rw [h1,i2,hu,hue];rfl
 have HST:=hid hST
 have CS:=hid (shape_to x a.1 a.2.1 a.2.2 b.1 b.2.1 b.2.2 e u.1 u.2.1 u.2.2 hee (by rw [hu,hue]))
 have i0:(0:Int)≤(ka:Int):=by omega
 have i1:(ka:Int) < (n:Int):=by omega
 have j0:(0:Int)≤(kb:Int):=by omega
 have j1:(kb:Int) < (n:Int):=by omega
 have hrA:=hcell ka a ha1
 have hrB:=hcell kb b hb1
 have HCA:Hid (∀ wS,Below w.heap.size w wS→wS.cell? ⟨bl,o+ka * 3,none⟩=some (.int .i64 a.1)∧wS.cell? ⟨bl,o+ka * 3+1,none⟩=some (.int .i64 a.2.1)∧wS.cell? ⟨bl,o+ka * 3+2,none⟩=some (.int .i64 a.2.2)) :=
  hid (fun wS h=>⟨(h.cell (p:=⟨bl,o+ka * 3,none⟩) hbl).trans (hrA 0 _ rfl),(h.cell (p:=⟨bl,o+ka * 3+1,none⟩) hbl).trans (hrA 1 _ rfl),(h.cell (p:=⟨bl,o+ka * 3+2,none⟩) hbl).trans (hrA 2 _ rfl)⟩)
 have HCB:Hid (∀ wS,Below w.heap.size w wS→wS.cell? ⟨bl,o+kb * 3,none⟩=some (.int .i64 b.1)∧wS.cell? ⟨bl,o+kb * 3+1,none⟩=some (.int .i64 b.2.1)∧wS.cell? ⟨bl,o+kb * 3+2,none⟩=some (.int .i64 b.2.2)) :=
  hid (fun wS h=>⟨(h.cell (p:=⟨bl,o+kb * 3,none⟩) hbl).trans (hrB 0 _ rfl),(h.cell (p:=⟨bl,o+kb * 3+1,none⟩) hbl).trans (hrB 1 _ rfl),(h.cell (p:=⟨bl,o+kb * 3+2,none⟩) hbl).trans (hrB 2 _ rfl)⟩)
 have hA1:Hid (x.val.toList[1]?=some (.int .i64 (ka:Int))):=hid (by rw [← hka];rfl)
 have hB1:Hid (x.val.toList[2]?=some (.int .i64 (kb:Int))):=hid (by rw [← hkb];rfl)
 clear hT hx hz ht he hol hn ht2 hnb hka hkb ha1 ha2 hb1 hb2 hr hbl hcell hu hue hee hST hrA hrB
 go_enter Tryd.func33,Tryd.ntmps33
 go_upto_region 1 with fail
 generalize (w.alloc (.cells x.val 67)).alloc (.cells #[.int .i64 0,.int .i64 0,.int .i64 0] 30)=W0 at HN ⊢
 go_upto_region 6 with (first
  | (refine zac rfl _ rfl w.heap.size x rfl HN2.out.1 ?_)
  | (refine zac rfl _ rfl w.heap.size x rfl HN1.out.1 ?_)
  | (refine zac rfl _ rfl w.heap.size x rfl HN.out.1 ?_)
  | (go_at_call 52
     refine (zbh x HX.out _ (HT.out.below HN.out.2.2.1 HT.out.size)).mono ?_
     rintro e w1 ⟨rfl,hb⟩
     rw [HZZ.out]
     have HN1:=hid (HN.out.below hb)
     clear hb)
  | (go_at_call 54
     refine (operands_to x _).mono ?_
     rintro e w2 ⟨bo,rfl, -,hr,hb⟩
     have HN2:=hid (HN1.out.below hb)
     have HRO:=hid hr
     clear hb hr)
  | (go_at_call 53
     refine (earlier_to (opL x) _ rfl HOL.out (n:Int) _ _ _ HRO.out).mono ?_
     rintro e w3 ⟨rfl,rfl⟩
     rw [HE.out]))
 ·have HN9:=hid (HN2.out.below (Below.refl _ w2).drew)
  clear HN HN1 HN2 HRO
  refine wp_region_held_drew (S:=NxS w x) (by kernel_rfl) HN9.out (fun hHeld=>?_)
  clear HN9
  generalize w2.drew=W1 at hHeld ⊢
  refine Tk.t 0 (v:=.agg x.val) rfl (zau _ rfl (by rfl) _ x rfl (fun _ h=>h.1)) (by assumption) ?_
  try simp only [Tk.put]
  refine Tk.x 1 rfl ?_
  try simp only [Tk.put]
  refine Tk.x 2 rfl ?_
  try simp only [Tk.put]
  refine Tk.y 3 (v:=.int .i64 (ka:Int)) rfl ?_ ?_
  ·intro wS hSw
   have q:=hSw.1.at 1 (.int .i64 (ka:Int)) hA1.out
   first | (go_simp;done) | (go_simp;with_reducible rfl)
  try simp only [Tk.put]
  refine Tk.x 4 rfl ?_
  try simp only [Tk.put]
  refine Tk.y 5 (v:=.agg #[.int .i64 a.1,.int .i64 a.2.1,.int .i64 a.2.2]) rfl ?_ ?_
  ·intro wS hSw
   obtain⟨q0,q1,q2⟩:=HCA.out wS hSw.2.2.1
   first | (go_simp;done) | (go_simp;with_reducible rfl)
  try simp only [Tk.put]
  refine Tk.x 6 rfl ?_
  try simp only [Tk.put]
  refine Tk.x 7 rfl ?_
  try simp only [Tk.put]
  refine Tk.y 8 (v:=.int .i64 (kb:Int)) rfl ?_ ?_
  ·intro wS hSw
   have q:=hSw.1.at 2 (.int .i64 (kb:Int)) hB1.out
   first | (go_simp;done) | (go_simp;with_reducible rfl)
  try simp only [Tk.put]
  refine Tk.x 9 rfl ?_
  try simp only [Tk.put]
  refine Tk.y 10 (v:=.agg #[.int .i64 b.1,.int .i64 b.2.1,.int .i64 b.2.2]) rfl ?_ ?_
  ·intro wS hSw
   obtain⟨q0,q1,q2⟩:=HCB.out wS hSw.2.2.1
   first | (go_simp;done) | (go_simp;with_reducible rfl)
  try simp only [Tk.put]
  refine Tk.s 11 rfl (fun Kq hK=>?_)
  go_simp
  go_at_call 55
  refine (CS.out _).mono ?_
  rintro e W2 ⟨rfl,hb⟩
  have hS2:=hHeld.below hb
  clear hHeld hb
  dsimp only
  refine hK.out _ _ hS2 (fun hHeld=>?_)
  clear hK Kq hS2
  try simp only [Tk.put]
  refine Tk.x 12 rfl ?_
  try simp only [Tk.put]
  refine Tk.x 13 rfl ?_
  try simp only [Tk.put]
  refine Tk.s 14 rfl (fun Kq hK=>?_)
  rw [if_pos (by rfl)]
  refine wp_store_mid 30 _ _ rfl (w.heap.size+1) 0 #[.int .i64 u.1,.int .i64 u.2.1,.int .i64 u.2.2] rfl rfl hHeld.2.1 info_shape (tri_one _ _ _) ?_
  have hS3:=hHeld.stored (#[.int .i64 u.1,.int .i64 u.2.1,.int .i64 u.2.2]:Array Value)
  have HRG:=hid (World.rangeAt_setCells_same W2 (w.heap.size+1) 0 (#[.int .i64 u.1,.int .i64 u.2.1,.int .i64 u.2.2]:Array Value).toList hHeld.2.1)
  clear hHeld
  generalize W2.setCells (w.heap.size+1) 0 (#[.int .i64 u.1,.int .i64 u.2.1,.int .i64 u.2.2]:Array Value).toList=W3 at hS3 HRG ⊢
  refine hK.out _ _ hS3 (fun hHeld=>?_)
  clear hK Kq hS3
  try simp only [Tk.put]
  refine Tk.x 15 rfl ?_
  try simp only [Tk.put]
  refine wpAnyH_done (by kernel_rfl) ?_ _
  go_wp2_with fail
  refine bodyPost_ret (Kit.zaa rfl _ _ (w.heap.size+1) 0 [.int .i64 u.1,.int .i64 u.2.1,.int .i64 u.2.2] _ rfl HRG.out Tryd.underlying30 rfl (by kernel_rfl)) rfl ?_
  exact⟨u,by rw [HST.out.1];rfl,fun _=>HST.out.2.symm,hHeld.2.2.1⟩
theorem next_to (x:Nd) (hx:x.Small) (L:List Tri) (n c:Nat) (hn:L.length=n) (hn1:n≤100) (A:Option Addr) (w:World) (hT:zan w) (hr:Kit.Rd w w.heap.size A (tvV L)) :
  Calls Tryd.prog 33 #[.slice A n c,.agg x.val] w (NextPost x L w):=by
 by_cases hz:x.checkZ=0
 ·cases ht:zbm x n with
  | false=>exact next_lost x hx L n c hn hn1 A hz ht w hT
  | true=>exact next_yes x hx L n c hn hn1 A hz ht w hT hr
 ·exact next_bad x hx L n c A hz w hT
theorem zbk {ops:Array Oper} {rest:List Oper} {op:Oper} {a:Act} {w:World} {Q:Exit→Act→World→Prop} (hgd:op.guard=none) (x:Operand) (ho:op.op=.load 67 x)
  (b o:Nat) (u:Nd) (hx:a.eval x=.pointer (some ⟨b,o,none⟩)) (hb:w.rangeAt b o u.val.toList)
  (h:wpList Tryd.prog ops Q rest (a.put op.dst (.agg u.val)) w):wpList Tryd.prog ops Q (op :: rest) a w :=
 wpList_load_mid hgd 67 x ho b o hx u.val.toList _ hb Tryd.underlying67 rfl (by kernel_rfl) h
theorem info_parts {P:Program} {t:TypeId} {z:Option Value} {s b:Nat} (h:(P.info? t).map (fun i=>(i.zero,i.size,i.bytes))=some (z,s,b)):∃ i,P.info? t=some i∧i.zero=z∧i.size=s∧i.bytes=b:=by
 cases hi:P.info? t with
 | none=>rw [hi] at h;cases h
 | some i=>rw [hi] at h;simp at h;exact⟨i,rfl,h.1,h.2.1,h.2.2⟩
theorem info_sh3:(Tryd.prog.info? 30).map (fun i=>(i.zero,i.size,i.bytes))=some (some (.agg #[.int .i64 0,.int .i64 0,.int .i64 0]),3,24):=by kernel_rfl
theorem own_new3 (w:World) (base:Nat) (hb:base≤w.heap.size) (t:Tri):(w.alloc (.cells #[.int .i64 t.1,.int .i64 t.2.1,.int .i64 t.2.2] 30)).ownsRow base 30 3 (.slice (some ⟨w.heap.size,0,none⟩) 1 1) 1 (tvV [t]) :=
 ⟨rfl,.inr ⟨w.heap.size,1,_,rfl,hb,heap_alloc_new w _,le_refl _,by unfold maxLen;omega,rfl,rfl⟩⟩
def ThrPost (X:Nat→Nd) (t0:Tri) (n:Nat) (w:World) (e:Ending) (w':World):Prop :=
 ((∃ k z,zbn X t0 n=some (k,z)∧e=.returned (.tuple #[.slice none 0 0,.int .i64 (k:Int),.int .i64 z])) ∨
   (zbn X t0 n=none∧∃ v,e=.returned (.tuple #[v,.int .i64 (n:Int),.int .i64 0])∧w'.ownsRow w.heap.size 30 3 v (n+1) (tvV (shL X t0 n))))∧Below w.heap.size w w'
theorem rd_new1 (w:World) (o:Obj) (cs:List Value) (T:TypeId):Kit.Rd ((w.alloc o).alloc (.cells cs.toArray T)) (w.heap.size+2) (some ⟨w.heap.size+1,0,none⟩) cs:=by
 have h:Kit.Rd ((w.alloc o).alloc (.cells cs.toArray T)) ((w.alloc o).heap.size+1) (some ⟨(w.alloc o).heap.size,0,none⟩) cs:=Kit.Rd.new _ _ _ (lt_succ_self _)
 have e:(w.alloc o).heap.size=w.heap.size+1:=by simp
 rw [e] at h;exact h
theorem node_small {w:World} {B:Nat} {x:Nd} (h:NdOk w B x):x.Small:=⟨h.z,h.q.2.2.2.2.2.2,h.q.2.2.2.2.1,h.q.2.2.2.2.2.1⟩
theorem through_to (X:Nat→Nd) (t0:Tri) (n c:Nat) (hn:n≤50) (A:Option Addr) (w:World) (hT:zan w) (hX:∀ j,j < n→(X j).Small) (hA:NodesAt w w.heap.size A n X) :
  Calls Tryd.prog 32 #[.slice A n c,.agg #[.int .i64 t0.1,.int .i64 t0.2.1,.int .i64 t0.2.2],.func (.func 33) #[] #[]] w (ThrPost X t0 n w):=by
 have HT:=hid hT
 have HX:=hid hX
 have HA:=hid hA
 obtain⟨i0,hi0,hi1,hi2,hi3⟩:=info_parts info_sh3
 have hO:=own_new3 (w.alloc (.cells #[.int .i64 t0.1,.int .i64 t0.2.1,.int .i64 t0.2.2] 30)) w.heap.size (by simp) t0
 rw [World.size_alloc] at hO
 have HO0:=hid hO
 have HB0:=hid (((Below.refl w.heap.size w).alloc (le_refl _) (.cells #[.int .i64 t0.1,.int .i64 t0.2.1,.int .i64 t0.2.2] 30)).alloc (by simp) (.cells #[.int .i64 t0.1,.int .i64 t0.2.1,.int .i64 t0.2.2] 30))
 clear hT hX hA hO
 go_enter Tryd.func32,Tryd.ntmps32
 go_wp2_with fail
 generalize (w.alloc (.cells #[.int .i64 t0.1,.int .i64 t0.2.1,.int .i64 t0.2.2] 30)).alloc (.cells #[.int .i64 t0.1,.int .i64 t0.2.1,.int .i64 t0.2.2] 30)=W0 at HO0 HB0 ⊢
 go_loopw [9,18] (fun v u wr=>∃ k:Nat,k≤n∧u=.int .i64 k∧Hid (zbn X t0 k=none)∧Hid (wr.ownsRow w.heap.size 30 3 v (k+1) (tvV (shL X t0 k)))∧Hid (Below w.heap.size w wr)) (fun _ u _=>n - (intOf u).toNat)
 case atStart=>exact⟨0,Nat.zero_le _,rfl,hid rfl,HO0,HB0⟩
 case round =>
  obtain⟨k,hk,rfl,hst,HO,HB⟩:=hrel
  clear HO0 HB0
  by_cases hlt:k < n
  ·obtain⟨Av,cv,rfl, -, -,hrd⟩:=Kit.own_rd HO.out
   obtain⟨ba,oa,rfl,hba,hra⟩:=(HA.out.below HB.out) k hlt
   have k0:(0:Int)≤(k:Int):=by omega
   have k1:(k:Int) < (n:Int):=by omega
   have HRA:=hid hra
   obtain⟨z,hz⟩:∃ z,stopZ (X k) (shL X t0 k)=z:=⟨_,rfl⟩
   have hcn:∀ wx:World,Below wr.heap.size wr wx→Calls Tryd.prog 33 #[.slice Av (k+1) cv,.agg (X k).val] wx fun r w'=>∃ u:Tri,r=.returned (.tuple #[.agg #[.int .i64 u.1,.int .i64 u.2.1,.int .i64 u.2.2],.int .i64 z])∧(z=0→u=nextT (X k) (shL X t0 k))∧Below wx.heap.size wx w':=by
    intro wx hb
    have h:=next_to (X k) (HX.out k hlt) (shL X t0 k) (k+1) cv (shL_len X t0 k) (by omega) Av wx (HT.out.below (HB.out.trans (hb.mono HB.out.size)) HT.out.size) ((hrd.below hb).more hb.size)
    unfold NextPost at h
    rw [hz] at h
    exact h
   have CN:=hid hcn
   have HZ:=hid hz
   clear hcn hz hrd hra hba
   by_cases hz0:z=0
   ·subst hz0
    have hgo:=stopAt_go hst.out HZ.out
    have HGO:=hid hgo
    clear hgo
    go_wp2_with (first
     | (refine zbk rfl _ rfl ba (oa+k * 19) (X k) rfl HRA.out ?_)
     | (refine za0 rfl _ _ rfl wr.heap.size nd0 (X k) rfl rfl (NdBox.new nd0 _ wr) ?_
        intro w1 hbx hbl hsz
        have HBX:=hid hbx
        have hh:Below wr.heap.size wr w1:=((Below.refl _ _).alloc (le_refl _) _).trans hbl
        have HB1:=hid (HB.out.trans (hh.mono HB.out.size))
        have HH:=hid hh
        have HO1:=hid (Kit.own_below HO.out hh)
        clear hbx hbl hsz hh)
     | (refine zac rfl _ rfl wr.heap.size (X k) rfl HBX.out.1 ?_)
     | (go_at_call 33
        refine (CN.out _ HH.out).mono ?_
        rintro e w2 ⟨u,rfl,hu,hb⟩
        have hue:=hu rfl
        have HUE:=hid hue
        have HB2:=hid (HB1.out.trans (hb.mono HB1.out.size))
        have HO2:=hid (Kit.own_below HO1.out hb)
        clear hu hue hb)
     | (at_builtin
        refine Kit.za1 _ rfl (.tmp 34) (.tmp 36) _ rfl w.heap.size 30 i0 (.agg #[.int .i64 0,.int .i64 0,.int .i64 0]) 3 24 Tryd.underlying89 hi0 hi1 hi2 hi3 rfl (by decide) _ (k+1) (tvV (shL X t0 k)) rfl ((HO2.out.alloc _).alloc _) _ _ 1 1 [.int .i64 u.1,.int .i64 u.2.1,.int .i64 u.2.2] rfl rfl (rd_new1 _ _ _ _) (Kit.zb4 .i64 [u.1,u.2.1,u.2.2]) (by unfold maxLen;omega) (by omega) (by have:=HB2.out.size;simp;omega) ?_
        intro v3 w3 hown3 hg3 hat3
        have hB3:Below w.heap.size w w3:=((HB2.out.alloc HB2.out.size _).alloc (by have:=HB2.out.size;simp;omega) _).grown hg3 (by have:=HB2.out.size;simp;omega) (fun q hq=>Kit.zbd HO2.out q hq)
        have e:tvV (shL X t0 k) ++ [.int .i64 u.1,.int .i64 u.2.1,.int .i64 u.2.2]=tvV (shL X t0 (k+1)):=by rw [shL,tvV_append, ← HUE.out];rfl
        rw [e] at hown3
        have HO3:=hid hown3
        have HB3:=hid hB3
        clear hown3 hg3 hat3 hB3 e))
    go_roundw
    case rel=>exact⟨k+1,by omega,by go_num,HGO,HO3,HB3⟩
    case measure=>simp [intOf];omega
   ·have hz1:(z != 0)=true:=by simpa using hz0
    have hend:=stopAt_end hlt hst.out (by rw [HZ.out];exact hz0)
    rw [HZ.out] at hend
    have HEND:=hid hend
    clear hend
    go_wp2_with (first
     | (refine zbk rfl _ rfl ba (oa+k * 19) (X k) rfl HRA.out ?_)
     | (refine za0 rfl _ _ rfl wr.heap.size nd0 (X k) rfl rfl (NdBox.new nd0 _ wr) ?_
        intro w1 hbx hbl hsz
        have HBX:=hid hbx
        have hh:Below wr.heap.size wr w1:=((Below.refl _ _).alloc (le_refl _) _).trans hbl
        have HB1:=hid (HB.out.trans (hh.mono HB.out.size))
        have HH:=hid hh
        clear hbx hbl hsz hh)
     | (refine zac rfl _ rfl wr.heap.size (X k) rfl HBX.out.1 ?_)
     | (go_at_call 33
        refine (CN.out _ HH.out).mono ?_
        rintro e w2 ⟨u,rfl,hu,hb⟩
        have HB2:=hid (HB1.out.trans (hb.mono HB1.out.size))
        clear hu hb))
    go_ret3
    exact⟨.inl ⟨k,z,HEND.out,rfl⟩,HB2.out.alloc HB2.out.size _⟩
  ·obtain rfl:k=n:=by omega
   go_wp2_with fail
   go_ret3
   exact⟨.inr ⟨hst.out,_,rfl,HO.out⟩,HB.out⟩
end CGraph
end
section
namespace CGuard
open Plain CSat CFix CShape CTensor CConv CSpan CKind CGraph CJoin
theorem cgn_join {w:World} (x:Nd) (hx:x.Small) (hT:zan w) (l h l2 h2:Int) (bd:(-128≤l∧l≤127)∧(-128≤h∧h≤127)∧(-128≤l2∧l2≤127)∧(-128≤h2∧h2≤127)) (ok:NBd x.Z x.Y x.m1 x.z1 x.m2 x.z2 x.lo x.hi) (he:x.checkZ=0) (hk:x.kd=6) (hlh:l≤h) (hlh2:l2≤h2) :
  Calls Tryd.prog 57 #[.agg x.val,.agg #[.int .i8 l,.int .i8 h],.agg #[.int .i8 l2,.int .i8 h2]] w fun e w'=>e=.returned (.tuple #[.agg #[.int .i8 (oneZ l l2 x.Z x.Y x.m1 x.s1 x.z1 x.m2 x.s2 x.lo x.hi),.int .i8 (oneZ h h2 x.Z x.Y x.m1 x.s1 x.z1 x.m2 x.s2 x.lo x.hi)],.int .i64 (0)])∧Below w.heap.size w w':=by
 obtain⟨hg0,hw0⟩:=zat.newC w x l h l2 h2
 have HG:=hid hg0
 have HW:=hid hw0
 have HT:=hid hT
 have hck:=fun (w:World) (hT:zan w)=>zbh x hx w hT
 rw [he] at hck
 have CE1:=hid (fun w:World=>zbu l h w)
 rw [show decide (h < l)=false by simp;omega] at CE1
 have CE2:=hid (fun w:World=>zbu l2 h2 w)
 rw [show decide (h2 < l2)=false by simp;omega] at CE2
 have dk1:(x.kd == 1)=false:=by simp [hk]
 have dk2:(x.kd == 2)=false:=by simp [hk]
 have dk3:(x.kd == 3)=false:=by simp [hk]
 have dk6:(x.kd == 6)=true:=by simp [hk]
 have dk7:(x.kd == 7)=false:=by simp [hk]
 have dk8:(x.kd == 8)=false:=by simp [hk]
 have CO1:Hid (∀ w:World,Calls Tryd.prog 78 #[.int .i8 l,.int .i8 l2,.agg x.val] w fun e w'=>e=.returned (.int .i8 (oneZ l l2 x.Z x.Y x.m1 x.s1 x.z1 x.m2 x.s2 x.lo x.hi))∧Below w.heap.size w w'):=hid (fun w=>one_to l l2 bd.1.1 bd.1.2 bd.2.2.1.1 bd.2.2.1.2 (.int .i64 x.kd) (.int .i64 x.na) (.int .i64 x.nb) x.K x.S x.P x.O x.Z x.Y x.WA x.BA x.nW x.cW x.nB x.cB x.m1 x.s1 x.z1 x.m2 x.s2 x.z2 x.lo x.hi ok _ rfl w)
 have CO2:Hid (∀ w:World,Calls Tryd.prog 78 #[.int .i8 h,.int .i8 h2,.agg x.val] w fun e w'=>e=.returned (.int .i8 (oneZ h h2 x.Z x.Y x.m1 x.s1 x.z1 x.m2 x.s2 x.lo x.hi))∧Below w.heap.size w w'):=hid (fun w=>one_to h h2 bd.2.1.1 bd.2.1.2 bd.2.2.2.1 bd.2.2.2.2 (.int .i64 x.kd) (.int .i64 x.na) (.int .i64 x.nb) x.K x.S x.P x.O x.Z x.Y x.WA x.BA x.nW x.cW x.nB x.cB x.m1 x.s1 x.z1 x.m2 x.s2 x.z2 x.lo x.hi ok _ rfl w)
 generalize oneZ l l2 x.Z x.Y x.m1 x.s1 x.z1 x.m2 x.s2 x.lo x.hi=ra at CO1 ⊢
 generalize oneZ h h2 x.Z x.Y x.m1 x.s1 x.z1 x.m2 x.s2 x.lo x.hi=rb at CO2 ⊢
 have CK:=hid hck
 clear hg0 hw0 hck hT he hk hlh hlh2
 go_enter Tryd.func57,Tryd.ntmps57
 go_upto_region 1 with fail
 generalize (((w.alloc (.cells x.val 67)).alloc (.cells #[.int .i8 l,.int .i8 h] 75)).alloc (.cells #[.int .i8 l2,.int .i8 h2] 75)).alloc (.cells #[.int .i8 0,.int .i8 0] 75)=W0 at HG HW ⊢
 have c0:=HG.out.1.at 0 _ rfl
 have c5:=HG.out.1.at 5 _ rfl
 have c7:=HG.out.1.at 7 _ rfl
 obtain⟨a0,a1⟩:=HG.out.2.1
 obtain⟨b0,b1⟩:=HG.out.2.2.1
 go_wp2_with (refine zac rfl _ rfl w.heap.size x rfl HG.out.1 ?_)
 go_at_call 52
 refine (CK.out _ (HT.out.grown HW.out)).mono ?_
 rintro e w1 ⟨rfl,hb⟩
 replace HG:=hid (HG.out.below hb)
 replace HW:=hid (HW.out.trans (hb.mono HW.out.size))
 clear hb c0 c5 c7 a0 a1 b0 b1
 have c0:=HG.out.1.at 0 _ rfl
 have c5:=HG.out.1.at 5 _ rfl
 have c7:=HG.out.1.at 7 _ rfl
 obtain⟨a0,a1⟩:=HG.out.2.1
 obtain⟨b0,b1⟩:=HG.out.2.2.1
 go_wp2_with (refine zac rfl _ rfl w.heap.size x rfl HG.out.1 ?_)
 go_at_call 34
 refine (CE1.out _).mono ?_
 rintro e w2 ⟨rfl,hb⟩
 replace HG:=hid (HG.out.below hb)
 replace HW:=hid (HW.out.trans (hb.mono HW.out.size))
 clear hb c0 c5 c7 a0 a1 b0 b1
 have c0:=HG.out.1.at 0 _ rfl
 have c5:=HG.out.1.at 5 _ rfl
 have c7:=HG.out.1.at 7 _ rfl
 obtain⟨a0,a1⟩:=HG.out.2.1
 obtain⟨b0,b1⟩:=HG.out.2.2.1
 go_wp2_with (refine zac rfl _ rfl w.heap.size x rfl HG.out.1 ?_)
 go_at_call 34
 refine (CE2.out _).mono ?_
 rintro e w3 ⟨rfl,hb⟩
 replace HG:=hid (HG.out.below hb)
 replace HW:=hid (HW.out.trans (hb.mono HW.out.size))
 clear hb c0 c5 c7 a0 a1 b0 b1
 have c0:=HG.out.1.at 0 _ rfl
 have c5:=HG.out.1.at 5 _ rfl
 have c7:=HG.out.1.at 7 _ rfl
 obtain⟨a0,a1⟩:=HG.out.2.1
 obtain⟨b0,b1⟩:=HG.out.2.2.1
 go_upto_region 12 with (refine zac rfl _ rfl w.heap.size x rfl HG.out.1 ?_)
 have HSZ:=hid HG.out.2.2.2.2
 have HFR:=hid HG.out.2.2.2.1
 refine wp_region_held_drew (S:=fun w'=>NdAt w.heap.size x w'∧RchAt (w.heap.size+1) l h w'∧RchAt (w.heap.size+2) l2 h2 w') (by kernel_rfl) ⟨HG.out.1,HG.out.2.1,HG.out.2.2.1⟩ (fun hHeld=>?_)
 replace HSZ:Hid (w.heap.size+4≤w3.drew.heap.size):=hid HSZ.out
 replace HFR:=hid (HFR.out.below (B':=w3.heap.size) (by have:=HSZ.out;simp at this;omega) (Below.refl _ _).drew)
 replace HW:=hid HW.out.drew
 clear HG c0 c5 c7 a0 a1 b0 b1
 generalize w3.drew=Wd at HSZ HFR HW hHeld ⊢
 refine Tk.x 0 rfl ?_
 try simp only [Tk.put]
 refine Tk.y 1 (v:=.int .i8 l) rfl ?_ ?_
 ·intro wS hSw
  obtain⟨-,⟨q1,q2⟩,⟨q3,q4⟩⟩:=hSw
  first | (go_simp;done) | (go_simp;with_reducible rfl)
 try simp only [Tk.put]
 refine Tk.x 2 rfl ?_
 try simp only [Tk.put]
 refine Tk.y 3 (v:=.int .i8 l2) rfl ?_ ?_
 ·intro wS hSw
  obtain⟨-,⟨q1,q2⟩,⟨q3,q4⟩⟩:=hSw
  first | (go_simp;done) | (go_simp;with_reducible rfl)
 try simp only [Tk.put]
 refine Tk.t 4 (v:=.agg x.val) rfl (zau _ rfl (by rfl) _ x rfl (fun _ q=>q.1)) (by assumption) ?_
 try simp only [Tk.put]
 refine Tk.x 6 rfl ?_
 try simp only [Tk.put]
 refine Tk.y 7 (v:=.int .i8 h) rfl ?_ ?_
 ·intro wS hSw
  obtain⟨-,⟨q1,q2⟩,⟨q3,q4⟩⟩:=hSw
  first | (go_simp;done) | (go_simp;with_reducible rfl)
 try simp only [Tk.put]
 refine Tk.x 8 rfl ?_
 try simp only [Tk.put]
 refine Tk.y 9 (v:=.int .i8 h2) rfl ?_ ?_
 ·intro wS hSw
  obtain⟨-,⟨q1,q2⟩,⟨q3,q4⟩⟩:=hSw
  first | (go_simp;done) | (go_simp;with_reducible rfl)
 try simp only [Tk.put]
 refine Tk.t 10 (v:=.agg x.val) rfl (zau _ rfl (by rfl) _ x rfl (fun _ q=>q.1)) (by assumption) ?_
 try simp only [Tk.put]
 refine Tk.s 5 rfl (fun K hK=>?_)
 go_simp
 go_at_call 78
 with_reducible refine (CO1.out _).mono ?_
 rintro e w4 ⟨rfl,hb⟩
 have hS2:=And.intro (hHeld.1.below (B:=Wd.heap.size) (by have:=HSZ.out;omega) hb) (And.intro (hHeld.2.1.below (B':=Wd.heap.size) (by have:=HSZ.out;omega) hb) (hHeld.2.2.below (B':=Wd.heap.size) (by have:=HSZ.out;omega) hb))
 replace HFR:=hid (HFR.out.below (B':=Wd.heap.size) (by have:=HSZ.out;omega) hb)
 replace HW:=hid (HW.out.trans (hb.mono HW.out.size))
 replace HSZ:=hid (Nat.le_trans HSZ.out hb.size)
 clear hb hHeld
 dsimp only
 refine hK.out _ _ hS2 (fun hHeld=>?_)
 clear hK K hS2
 try simp only [Tk.put]
 refine Tk.s 11 rfl (fun K hK=>?_)
 go_simp
 go_at_call 78
 with_reducible refine (CO2.out _).mono ?_
 rintro e w5 ⟨rfl,hb⟩
 have hS2:=And.intro (hHeld.1.below (B:=w4.heap.size) (by have:=HSZ.out;omega) hb) (And.intro (hHeld.2.1.below (B':=w4.heap.size) (by have:=HSZ.out;omega) hb) (hHeld.2.2.below (B':=w4.heap.size) (by have:=HSZ.out;omega) hb))
 replace HFR:=hid (HFR.out.below (B':=w4.heap.size) (by have:=HSZ.out;omega) hb)
 replace HW:=hid (HW.out.trans (hb.mono HW.out.size))
 replace HSZ:=hid (Nat.le_trans HSZ.out hb.size)
 clear hb hHeld
 dsimp only
 refine hK.out _ _ hS2 (fun hHeld=>?_)
 clear hK K hS2
 try simp only [Tk.put]
 refine Tk.x 12 rfl ?_
 try simp only [Tk.put]
 obtain⟨⟨z0,z1⟩,z2,z3⟩:=HFR.out
 refine Tk.s 13 rfl (fun K hK=>?_)
 go_simp
 refine hK.out _ _ ?_ (fun hHeld=>?_)
 ·exact⟨zce (zce hHeld.1 (by omega)) (by omega),za9 (za9 hHeld.2.1 (by omega)) (by omega),za9 (za9 hHeld.2.2 (by omega)) (by omega)⟩
 clear hK K
 try simp only [Tk.put]
 refine Tk.x 14 rfl ?_
 try simp only [Tk.put]
 refine wpAnyH_done (by kernel_rfl) ?_ _
 clear hHeld
 go_wp2_with fail
 refine bodyPost_ret (Kit.zaa rfl _ _ (w.heap.size+3) 0 [.int .i8 (ra),.int .i8 (rb)] _ rfl (Kit.zaq (by go_cell) (by go_cell)) Tryd.underlying75 rfl (by kernel_rfl)) rfl ?_
 exact⟨rfl,(HW.out.setCell (p:=⟨w.heap.size+3,0,none⟩) (Nat.le_add_right _ _) _).setCell (p:=⟨w.heap.size+3,1,none⟩) (Nat.le_add_right _ _) _⟩
end CGuard
end
end Go.Proofs.YtoffcaldhojjoaaDoor
