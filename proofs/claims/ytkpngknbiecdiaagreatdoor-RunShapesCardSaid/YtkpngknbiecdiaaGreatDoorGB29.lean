/- Texts of this seat, one behind the other: ActEach, TensorFill. -/
import Derived.Laws.MakeOwn
import Derived.Deep.CutRange
import Derived.Test.YtkpngknbiecdiaaGreatDoorGB5
import Derived.Test.YtkpngknbiecdiaaGreatDoorGB26
import Derived.Test.YtkpngknbiecdiaaGreatDoorGB28
section
namespace Go.Proofs.YtkpngknbiecdiaaGreatDoor.CAct
open Go Go.ChangeShapes Go.WideShapes Go.ChangeAt Go.RowKit Go.Deep
open Plain CSat CFix CShape CTensor CConv
set_option linter.unusedVariables false
def MadeT (w:World) (H W C:Int) (n:Nat) (zs:List Int) (x:Value) (e:Ending) (w':World):Prop :=
 ∃ v,e=.returned (.tuple #[.agg #[.int .i64 H,.int .i64 W,.int .i64 C,v],x])∧w'.ownsRow w.heap.size 22 1 v n (I8s zs)∧Below w.heap.size w w'
def MadeE (w:World) (H W C:Int) (n:Nat) (zs:List Int) (e:Ending) (w':World):Prop :=
 ∃ v,e=.returned (.agg #[.int .i64 H,.int .i64 W,.int .i64 C,v])∧w'.ownsRow w.heap.size 22 1 v n (I8s zs)∧Below w.heap.size w w'
theorem rowL_same {F G:Nat→Int} {n:Nat} (h:∀ i,i < n→F i=G i):rowL F n=rowL G n:=by
 unfold rowL
 exact List.map_congr_left fun i hi=>h i (by simpa using hi)
theorem i8_at (F:Nat→Int) {d r:Nat} (h:r < d):(I8s (rowL F d))[r]?=some (.int .i8 (F r)):=by simp [I8s,rowL,h]
def madeA (F:Nat→Int) (o i:Nat):Int:=if i < o then F i else 0
theorem madeA_zero (F:Nat→Int) (N:Nat):I8s (rowL (madeA F 0) N)=List.replicate N (.int .i8 0):=by
 refine List.ext_getElem (by simp [I8s,rowL]) fun i h1 h2=>?_
 simp [I8s,rowL,madeA]
theorem madeA_all (F:Nat→Int) (N:Nat):rowL (madeA F N) N=rowL F N:=rowL_same (fun i hi=>by unfold madeA;rw [if_pos hi])
theorem madeA_set (F:Nat→Int) {N o:Nat} (v:Int) (hv:F o=v):(I8s (rowL (madeA F o) N)).set o (.int .i8 v)=I8s (rowL (madeA F (o+1)) N):=by
 refine List.ext_getElem (by simp [I8s,rowL]) fun i h1 h2=>?_
 rw [List.getElem_set]
 by_cases e:o=i
 ·subst e
  rw [if_pos rfl]
  simp [I8s,rowL,madeA,hv]
 ·rw [if_neg e]
  simp only [I8s,rowL,List.map_map,List.getElem_map,List.getElem_range,Function.comp,madeA]
  by_cases h:i < o
  ·rw [if_pos h,if_pos (by omega)]
  ·rw [if_neg h,if_neg (by omega)]
theorem info_i8a:(Tryz.prog.info? 22).map (fun i=>(i.zero,i.size,i.bytes))=some (some (.int .i8 0),1,1):=by kernel_rfl
set_option maxRecDepth 100000 in
set_option maxHeartbeats 2000000 in
theorem ofc_to (x:Int) (hx1 : -128≤x) (hx2:x≤127) (x0 x1 x2:Value) (K S P O Z Y:Int) (WA BA:Option Addr) (nW cW nB cB:Nat) (m1 s1 z1 m2 s2 z2 lo hi:Int) (hnb:NBd Z Y m1 z1 m2 z2 lo hi) (R:Int) (hR:heldZ (x - Z) m1 s1 z1 lo hi=R) (bn:Nat) (w:World) (hN:NodeAt bn x0 x1 x2 (.int .i8 Y) (.int .i32 m1) (.int .i64 s1) (.int .i8 z1) (.int .i32 m2) (.int .i64 s2) (.int .i8 z2) (.int .i8 lo) (.int .i8 hi) K S P O Z WA BA nW cW nB cB w) :
  Calls Tryz.prog 61 #[.int .i8 x,.pointer (some ⟨bn,0,none⟩)] w fun e w'=>e=.returned (.int .i8 R)∧Below w.heap.size w w':=by
 have HR:=Lib.hid hR
 have TN:=Lib.hid hN
 have HNB:=Lib.hid hnb
 clear hR hN hnb
 go_enter Tryz.func61,Tryz.ntmps61
 go_wp2_with (first
  | (refine wpList_load_mid rfl 28 (.tmp 1) rfl bn 0 rfl [x0,x1,x2,.int .i64 K,.int .i64 S,.int .i64 P,.int .i64 O,.int .i8 Z,.int .i8 Y,.slice WA nW cW,.slice BA nB cB,.int .i32 m1,.int .i64 s1,.int .i8 z1,.int .i32 m2,.int .i64 s2,.int .i8 z2,.int .i8 lo,.int .i8 hi] _ TN.out Tryz.underlying28 rfl (by kernel_rfl) ?_)
  | (go_at_call 62;(refine (aone_to x hx1 hx2 x0 x1 x2 K S P O Z Y WA BA nW cW nB cB m1 s1 z1 m2 s2 z2 lo hi HNB.out R HR.out _).mono ?_);rintro e w1 ⟨rfl,hb⟩))
 go_ret
 exact⟨rfl,hb⟩
set_option maxRecDepth 100000 in
set_option maxHeartbeats 4000000 in
theorem each_of (H W C:Int) (A:Option Addr) (zs:List Int) (n c:Nat) (hn:zs.length=n) (hn2:n≤1000000) (hz:I8b zs) (g0:Nat) (x0 x1 x2:Value) (K S P O Z Y:Int) (WA BA:Option Addr) (nW cW nB cB:Nat) (m1 s1 z1 m2 s2 z2 lo hi:Int) (hnb:NBd Z Y m1 z1 m2 z2 lo hi) (F:Nat→Int) (hF:∀ k,F k=heldZ (zs.getD k 0 - Z) m1 s1 z1 lo hi) (w:World) (hN:NodeAt g0 x0 x1 x2 (.int .i8 Y) (.int .i32 m1) (.int .i64 s1) (.int .i8 z1) (.int .i32 m2) (.int .i64 s2) (.int .i8 z2) (.int .i8 lo) (.int .i8 hi) K S P O Z WA BA nW cW nB cB w) (hg0:g0 < w.heap.size) (hr:Kit.Rd w w.heap.size A (I8s zs)) :
  Calls Tryz.prog 60 #[.agg #[.int .i64 H,.int .i64 W,.int .i64 C,.slice A n c],.func (.func 61) #[] #[.pointer (some ⟨g0,0,none⟩)]] w (MadeE w H W C n (rowL F n)):=by
 have HN:=Lib.hid hn
 have HZ:=Lib.hid hz
 have HF:=Lib.hid hF
 have HR:=Lib.hid hr
 have HNB:=Lib.hid hnb
 have HND:=Lib.hid hN
 have hal:Below w.heap.size w ((w.alloc (.cells #[.int .i64 H,.int .i64 W,.int .i64 C,.slice A n c] 32)).alloc (.cells #[.int .i64 0,.int .i64 0,.int .i64 0,.slice none 0 0] 32)):=((Below.refl _ _).alloc (Nat.le_refl _) _).alloc (by simp) _
 have tb0:BoxAt w.heap.size H W C A n c ((w.alloc (.cells #[.int .i64 H,.int .i64 W,.int .i64 C,.slice A n c] 32)).alloc (.cells #[.int .i64 0,.int .i64 0,.int .i64 0,.slice none 0 0] 32)):=(boxNew H W C A n c 32 w).below (B':=w.heap.size+1) (by omega) ((Below.refl _ _).alloc (by simp) _)
 have fr0:FreshT (w.heap.size+1) ((w.alloc (.cells #[.int .i64 H,.int .i64 W,.int .i64 C,.slice A n c] 32)).alloc (.cells #[.int .i64 0,.int .i64 0,.int .i64 0,.slice none 0 0] 32)):=by
  have h:=freshNew 32 (w.alloc (.cells #[.int .i64 H,.int .i64 W,.int .i64 C,.slice A n c] 32))
  rw [World.size_alloc] at h
  exact h
 have hs0:((w.alloc (.cells #[.int .i64 H,.int .i64 W,.int .i64 C,.slice A n c] 32)).alloc (.cells #[.int .i64 0,.int .i64 0,.int .i64 0,.slice none 0 0] 32)).heap.size=w.heap.size+2:=by simp
 have HAL:=Lib.hid hal
 have TB0:=Lib.hid tb0
 have FR0:=Lib.hid fr0
 have HS0:=Lib.hid hs0
 obtain⟨i0,hi0,hi1,hi2,hi3⟩:=info_parts32 info_i8a
 have HI:=Lib.hid (And.intro hi0 (And.intro hi1 (And.intro hi2 hi3)))
 clear hn hz hF hr hal tb0 fr0 hs0 hi0 hi1 hi2 hi3 hnb hN
 go_enter Tryz.func60,Tryz.ntmps60
 go_wp2_with (at_make;refine wpList_make_full _ rfl (.tmp 10) (.tmp 10) _ rfl (w.heap.size+2) 22 i0 (.int .i8 0) 1 Tryz.underlying23 HI.out.1 HI.out.2.1 HI.out.2.2.1 .i64 .i64 _ _ n rfl rfl rfl rfl (by rw [HI.out.2.2.2];omega) (by unfold maxLen;omega) (by have:=HS0.out;omega) ?_;(intro w2 hown hg2);(have hb2:Below (w.heap.size+2) ((w.alloc (.cells #[.int .i64 H,.int .i64 W,.int .i64 C,.slice A n c] 32)).alloc (.cells #[.int .i64 0,.int .i64 0,.int .i64 0,.slice none 0 0] 32)) w2:=(Below.refl _ _).grown hg2 (by have:=HS0.out;omega) (fun q hq=>by cases hq));(rw [show (madeCells (Value.int IntKind.i8 0).cells (n * 1)).toList=List.replicate n (.int .i8 0) by rw [Nat.mul_one];exact toList_madeCells_one _ _] at hown);(rw [← madeA_zero F n] at hown);(simp only [World.size_alloc] at hown);(have HOWN:=Lib.hid hown);(have TB:=Lib.hid (TB0.out.below (by omega) hb2));(have FR:=Lib.hid (FR0.out.below (by omega) hb2));(have HB0:=Lib.hid (HAL.out.trans (hb2.mono (by omega))));(have hs2:w.heap.size+2≤w2.heap.size:=by have:=hb2.size;have:=HS0.out;omega);(obtain⟨t0,t1,t2,t3⟩:=TB.out);clear hown hg2 hb2 HAL TB0 FR0)
 clear t0 t1 t2 t3
 go_loopw [15] (fun u wr=>∃ k:Nat,k≤n∧u=.int .i64 k∧Hid (wr.ownsRow (w.heap.size+2) 22 1 (.slice (some ⟨w.heap.size+1+1,0,none⟩) n n) n (I8s (rowL (madeA F k) n)))∧Hid (Below (w.heap.size+2) w2 wr)) (fun u _=>n - (intOf u).toNat)
 case atStart=>exact⟨0,Nat.zero_le _,rfl,HOWN,Lib.hid (Below.refl _ _)⟩
 case round =>
  obtain⟨k,hk,rfl,HO,HB⟩:=hrel
  clear HOWN
  by_cases hlt:k < n
  ·have hk0:(0:Int)≤(k:Int):=by omega
   have hkn:(k:Int) < (n:Int):=by omega
   obtain⟨ba,oa,rfl,hba,hca⟩:=ints_getD HR.out (j:=0) (by have:=HN.out;omega)
   have hbw:=HB0.out.trans (HB.out.mono (show w.heap.size≤w.heap.size+2 by omega))
   have hcx:=(hbw.cell (p:=⟨ba,oa+k,none⟩) hba).trans (hca k (by have:=HN.out;omega))
   obtain⟨xl,xu⟩:=HZ.out k
   have hf:=HF.out k
   generalize zs.getD k 0=x at hcx xl xu hf
   obtain⟨R,hR⟩:∃ R,F k=R:=⟨_,rfl⟩
   rw [hR] at hf
   have HFX:=Lib.hid hR
   have HRR:=Lib.hid hf.symm
   have HBW:=Lib.hid hbw
   have hsz:w.heap.size+1+1 < wr.heap.size:=Kit.block_lt_of_own HO.out
   clear hR hf hca hbw
   have TNW:=Lib.hid (HND.out.below hg0 HBW.out)
   go_wp2_with (go_at_call 61;(refine (ofc_to x xl xu x0 x1 x2 K S P O Z Y WA BA nW cW nB cB m1 s1 z1 m2 s2 z2 lo hi HNB.out R HRR.out g0 wr TNW.out).mono ?_);rintro e w3 ⟨rfl,hb⟩;(have ho3:=Kit.own_below HO.out hb);(have ks:w3.cell? ⟨w.heap.size+1+1,k,none⟩=some (.int .i8 (madeA F k k)):=(ho3.cellAt k (by omega)).trans (i8_at _ hlt));(have fs:w3.frozen? ⟨w.heap.size+1+1,k,none⟩=false:=ho3.frozenAt k);(have hst:=(ho3.stored k (.int .i8 R)).1);(rw [madeA_set F R HFX.out] at hst);(have HST:=Lib.hid hst);(have HB3:=Lib.hid (HB.out.trans (hb.mono (by omega))));clear hst hb ho3)
   go_roundw
   case rel=>exact⟨k+1,by omega,by go_num,Lib.hid HST.out,Lib.hid (HB3.out.setCell (p:=⟨w.heap.size+1+1,k,none⟩) (by show w.heap.size+2≤w.heap.size+1+1;omega) _)⟩
   case measure=>simp [intOf];omega
  ·obtain rfl:k=n:=by omega
   have hfin:=HO.out
   rw [madeA_all] at hfin
   have HFI:=Lib.hid hfin
   obtain⟨t0,t1,t2,t3⟩:=TB.out.below (by omega) HB.out
   obtain⟨⟨z0,z1',z2',z3⟩,z4,z5,z6,z7⟩:=FR.out.below (show w.heap.size+1 < w.heap.size+2 by omega) HB.out
   have HBW9:=Lib.hid (HB0.out.trans (HB.out.mono (by omega)))
   clear hfin HO HB
   go_wp2_with fail
   refine bodyPost_ret (Kit.results_c rfl _ _ (w.heap.size+1) 0 [.int .i64 H,.int .i64 W,.int .i64 C,.slice (some ⟨w.heap.size+1+1,0,none⟩) k k] _ rfl (range_4 (by go_cell) (by go_cell) (by go_cell) (by go_cell)) Tryz.underlying32 rfl (by kernel_rfl)) rfl ?_
   refine⟨_,rfl,Kit.own_base (own_set4 HFI.out ?_) ?_,?_⟩
   any_goals (first | omega | (simp;done) | (simp;omega))
   exact (((HBW9.out.setCell (p:=⟨w.heap.size+1,0,none⟩) (by simp) _).setCell (p:=⟨w.heap.size+1,1,none⟩) (by simp) _).setCell (p:=⟨w.heap.size+1,2,none⟩) (by simp) _).setCell (p:=⟨w.heap.size+1,3,none⟩) (by simp) _
end Go.Proofs.YtkpngknbiecdiaaGreatDoor.CAct
end
section
namespace Go.Proofs.YtkpngknbiecdiaaGreatDoor.CTensor
open Go Go.ChangeShapes Go.WideShapes Go.ChangeAt Go.RowKit
open Plain CSat CShape
set_option linter.unusedVariables false
def ShapeAt (B:Nat) (H W C:Int) (wd:World):Prop :=
 wd.cell? ⟨B,0,none⟩=some (.int .i64 H)∧wd.cell? ⟨B,1,none⟩=some (.int .i64 W)∧wd.cell? ⟨B,2,none⟩=some (.int .i64 C)
theorem ShapeAt.below {B B':Nat} {H W C:Int} {w w':World} (h:ShapeAt B H W C w) (hB:B < B') (hb:Below B' w w'):ShapeAt B H W C w' :=
 ⟨(hb.cell (p:=⟨B,0,none⟩) hB).trans h.1,(hb.cell (p:=⟨B,1,none⟩) hB).trans h.2.1,(hb.cell (p:=⟨B,2,none⟩) hB).trans h.2.2⟩
theorem ShapeAt.new (H W C:Int) (T:TypeId) (w:World):ShapeAt w.heap.size H W C (w.alloc (.cells #[.int .i64 H,.int .i64 W,.int .i64 C] T)) :=
 ⟨Kit.new_cell _ _ _ _,Kit.new_cell _ _ _ _,Kit.new_cell _ _ _ _⟩
theorem ShapeAt.stores {B B2:Nat} {H W C:Int} {w:World} (h:ShapeAt B H W C w) (hne:B≠B2) (a b d e:Value) :
  ShapeAt B H W C ((((w.setCell ⟨B2,0,none⟩ a).setCell ⟨B2,1,none⟩ b).setCell ⟨B2,2,none⟩ d).setCell ⟨B2,3,none⟩ e):=by
 have k:∀ i j (v:Value) (wd:World),(wd.setCell ⟨B2,j,none⟩ v).cell? ⟨B,i,none⟩=wd.cell? ⟨B,i,none⟩:=fun i j v wd=>World.cell?_setCell_other _ _ _ _ (fun e=>hne (congrArg Addr.block e).symm)
 unfold ShapeAt
 simp only [k]
 exact h
theorem fill_no (H W C x:Int) (hs:shapeB H W C=false) (w:World) :
  Calls Tryz.prog 108 #[.agg #[.int .i64 H,.int .i64 W,.int .i64 C],.int .i8 x] w fun e w'=>e=.returned (.tuple #[.agg #[.int .i64 0,.int .i64 0,.int .i64 0,.slice none 0 0],.int .i64 5])∧Below w.heap.size w w':=by
 have HS:=Lib.hid hs
 clear hs
 go_enter Tryz.func108,Tryz.ntmps108
 go_wp2_with (go_at_call 51;((with_reducible refine (CShape.right_to H W C false HS.out _).mono ?_);(rintro e w1 ⟨rfl,hb⟩;obtain⟨hc,hf⟩:=Kit.bcell hb;have hz:w.heap.size+2≤w1.heap.size:=(by have:=hb.size;simp at this;omega);have HB:Hid (Below w.heap.size w w1):=Lib.hid (Below.trans (((Below.refl _ _).alloc (Nat.le_refl _) _).alloc (by simp) _) (hb.mono (by simp;omega))))))
 refine bodyPost_ret (Kit.results_ct rfl _ _ (w.heap.size+1) 0 [.int .i64 0,.int .i64 0,.int .i64 0,.slice none 0 0] _ rfl (range_4 (by go_cell) (by go_cell) (by go_cell) (by go_cell)) Tryz.underlying32 rfl (by kernel_rfl)) rfl ?_
 exact⟨rfl,((((HB.out.setCell (p:=⟨w.heap.size+1,0,none⟩) (by simp) _).setCell (p:=⟨w.heap.size+1,1,none⟩) (by simp) _).setCell (p:=⟨w.heap.size+1,2,none⟩) (by simp) _).setCell (p:=⟨w.heap.size+1,3,none⟩) (by simp) _)⟩
theorem fill_yes (H W C x:Int) (n:Nat) (hs:shapeB H W C=true) (hn:H * W * C=(n:Int)) (w:World) :
  Calls Tryz.prog 108 #[.agg #[.int .i64 H,.int .i64 W,.int .i64 C],.int .i8 x] w (Made w H W C n (List.replicate n x) (.int .i64 0)):=by
 have hm:elemsZ H W C=(n:Int):=by rw [elemsZ_yes hs];exact hn
 have hs2:=hs
 simp only [shapeB,decide_eq_true_eq] at hs2
 obtain⟨g1,g2,g3,g4,g5,g6,g7⟩:=hs2
 have hpr:=prod_bd g1 g2 g3 g4 g5 g6
 have h1:1≤n:=by omega
 have hl:n≤1000000:=by omega
 have HS:=Lib.hid hs
 have HM:=Lib.hid hm
 clear hs hn hm hpr g1 g2 g3 g4 g5 g6 g7
 go_enter Tryz.func108,Tryz.ntmps108
 go_wp2_with (go_at_call 51;((with_reducible refine (CShape.right_to H W C true HS.out _).mono ?_);(rintro e w1 ⟨rfl,hb⟩)))
 have HB:Hid (Below w.heap.size w w1):=Lib.hid (Below.trans (((Below.refl _ _).alloc (Nat.le_refl _) _).alloc (by simp) _) (hb.mono (by simp;omega)))
 have hz:w.heap.size+2≤w1.heap.size:=by have:=hb.size;simp at this;omega
 have hbox:ShapeAt w.heap.size H W C w1.drew :=
  ((ShapeAt.new H W C 30 w).below (Nat.lt_succ_self _) ((Below.refl _ _).alloc (by simp) (.cells #[.int .i64 0,.int .i64 0,.int .i64 0,.slice none 0 0] 32))).below (by simp;omega) hb.drew
 have HFR:Hid (FreshT (w.heap.size+1) w1.drew):=Lib.hid ((FreshT.new 32 (w.alloc (.cells #[.int .i64 H,.int .i64 W,.int .i64 C] 30)) (w.heap.size+1) (by simp)).below (by simp) hb.drew)
 replace HB:=Lib.hid HB.out.drew
 have hz:w.heap.size+2≤w1.drew.heap.size:=hz
 clear hb
 refine wp_region_held_drew (S:=ShapeAt w.heap.size H W C) (by kernel_rfl) hbox (fun hHeld=>?_)
 clear hbox
 generalize w1.drew=W1 at HFR HB hz hHeld ⊢
 refine Tk.y 0 (v:=?_) rfl ?_ ?_
 rotate_left
 ·intro wS hSw
  obtain⟨s1,s2,s3⟩:=hSw
  first | (go_simp;done) | (go_simp;with_reducible rfl)
 try simp only [Tk.put]
 refine Tk.y 1 (v:=?_) rfl ?_ ?_
 rotate_left
 ·intro wS hSw
  obtain⟨s1,s2,s3⟩:=hSw
  first | (go_simp;done) | (go_simp;with_reducible rfl)
 try simp only [Tk.put]
 refine Tk.y 3 (v:=?_) rfl ?_ ?_
 rotate_left
 ·intro wS hSw
  obtain⟨s1,s2,s3⟩:=hSw
  first | (go_simp;done) | (go_simp;with_reducible rfl)
 try simp only [Tk.put]
 refine wpAnyH_ready (rs:=[2,4]) (by kernel_rfl) (by simp) ?_
 refine Tk.c rfl (fun K hK=>?_) ?_
 ·go_simp
  refine hK.out _ _ ?_ (fun hHeld=>?_)
  ·exact (hHeld.below (by omega) ((Below.refl _ _).alloc (Nat.le_refl _) _))
  clear hK K
  try simp only [Tk.put]
  replace HFR:=Lib.hid (HFR.out.below (B':=W1.heap.size) (by omega) ((Below.refl _ _).alloc (Nat.le_refl _) (.cells #[.int .i8 x] 22)))
  replace HB:=Lib.hid (HB.out.alloc HB.out.size (.cells #[.int .i8 x] 22))
  have HX:=Lib.hid (Kit.Rd.new W1 [.int .i8 x] 22 (Nat.lt_succ_self _))
  have hzx:w.heap.size+2≤W1.heap.size:=hz
  replace hz:W1.heap.size+1≤(W1.alloc (.cells #[.int .i8 x] 22)).heap.size:=by simp
  generalize W1.alloc (.cells #[.int .i8 x] 22)=W2 at *
  refine Tk.s 4 rfl (fun K hK=>?_)
  go_simp
  go_at_call 52
  refine (elems_to H W C n HM.out _).mono ?_
  rintro e W3 ⟨rfl,hb⟩
  replace HX:=Lib.hid (HX.out.below (hb.mono (by omega)))
  have hS1:=hHeld.below (B':=_) (by omega) hb
  replace HFR:=Lib.hid (HFR.out.below (B':=_) (by omega) hb)
  replace HB:=Lib.hid (HB.out.trans (hb.mono (by omega)))
  replace hz:=Nat.le_trans hz hb.size
  clear hHeld
  clear hb
  dsimp only
  refine hK.out _ _ ?_ (fun hHeld=>?_)
  ·exact hS1
  clear hK K
  try simp only [Tk.put]
  refine Tk.s 5 rfl (fun K hK=>?_)
  go_simp
  go_at_call 141
  refine (repeat_to _ x 1 n h1 hl W3 (B:=(W1.heap.size+1)) (by omega) HX.out).mono ?_
  rintro e w5 ⟨v5,rfl,ho5,hb⟩
  obtain⟨A2,c2,rfl,_,_,_⟩:=Kit.own_rd ho5
  have HO:=Lib.hid (Kit.own_base ho5 (show w.heap.size+2≤W3.heap.size by omega))
  have hS1:=hHeld.below (B':=_) (by omega) hb
  replace HFR:=Lib.hid (HFR.out.below (B':=_) (by omega) hb)
  replace HB:=Lib.hid (HB.out.trans (hb.mono (by omega)))
  replace hz:=Nat.le_trans hz hb.size
  clear hHeld
  clear hb ho5
  obtain⟨⟨z0,z1,z2,z3⟩,z4,z5,z6,z7⟩:=HFR.out
  dsimp only
  refine hK.out _ _ ?_ (fun hHeld=>?_)
  ·exact hS1
  clear hK K
  try simp only [Tk.put]
  refine Tk.x 6 rfl ?_
  try simp only [Tk.put]
  refine Tk.s 7 rfl (fun K hK=>?_)
  go_simp
  refine hK.out _ _ ?_ (fun hHeld=>?_)
  ·exact hHeld.stores (by omega) _ _ _ _
  clear hK K
  try simp only [Tk.put]
  refine Tk.x 8 rfl ?_
  try simp only [Tk.put]
  refine wpAnyH_done (by kernel_rfl) ?_ _
  go_wp2_with fail
  refine bodyPost_ret (Kit.results_ct rfl _ _ (w.heap.size+1) 0 [.int .i64 H,.int .i64 W,.int .i64 C,.slice A2 n c2] _ rfl (range_4 (by go_cell) (by go_cell) (by go_cell) (by go_cell)) Tryz.underlying32 rfl (by kernel_rfl)) rfl ?_
  refine⟨_,rfl,Kit.own_base (own_set (own_set (own_set (own_set HO.out _ _ ?_) _ _ ?_) _ _ ?_) _ _ ?_) ?_,?_⟩
  any_goals (first | omega | (simp;done) | (simp;omega))
  exact ((((HB.out.setCell (p:=⟨w.heap.size+1,0,none⟩) (by simp) _).setCell (p:=⟨w.heap.size+1,1,none⟩) (by simp) _).setCell (p:=⟨w.heap.size+1,2,none⟩) (by simp) _).setCell (p:=⟨w.heap.size+1,3,none⟩) (by simp) _)
 refine Tk.c rfl (fun K hK=>?_) ?_
 ·go_simp
  go_at_call 52
  refine (elems_to H W C n HM.out _).mono ?_
  rintro e W2 ⟨rfl,hb⟩
  have hS1:=hHeld.below (B':=_) (by omega) hb
  replace HFR:=Lib.hid (HFR.out.below (B':=_) (by omega) hb)
  replace HB:=Lib.hid (HB.out.trans (hb.mono (by omega)))
  replace hz:=Nat.le_trans hz hb.size
  clear hHeld
  clear hb
  dsimp only
  refine hK.out _ _ ?_ (fun hHeld=>?_)
  ·exact hS1
  clear hK K
  try simp only [Tk.put]
  refine Tk.s 2 rfl (fun K hK=>?_)
  go_simp
  refine hK.out _ _ ?_ (fun hHeld=>?_)
  ·exact (hHeld.below (by omega) ((Below.refl _ _).alloc (Nat.le_refl _) _))
  clear hK K
  try simp only [Tk.put]
  replace HFR:=Lib.hid (HFR.out.below (B':=W2.heap.size) (by omega) ((Below.refl _ _).alloc (Nat.le_refl _) (.cells #[.int .i8 x] 22)))
  replace HB:=Lib.hid (HB.out.alloc HB.out.size (.cells #[.int .i8 x] 22))
  have HX:=Lib.hid (Kit.Rd.new W2 [.int .i8 x] 22 (Nat.lt_succ_self _))
  have hzx:w.heap.size+2≤W2.heap.size:=hz
  replace hz:W2.heap.size+1≤(W2.alloc (.cells #[.int .i8 x] 22)).heap.size:=by simp
  generalize W2.alloc (.cells #[.int .i8 x] 22)=W3 at *
  refine Tk.s 5 rfl (fun K hK=>?_)
  go_simp
  go_at_call 141
  refine (repeat_to _ x 1 n h1 hl W3 (B:=(W2.heap.size+1)) (by omega) HX.out).mono ?_
  rintro e w5 ⟨v5,rfl,ho5,hb⟩
  obtain⟨A2,c2,rfl,_,_,_⟩:=Kit.own_rd ho5
  have HO:=Lib.hid (Kit.own_base ho5 (show w.heap.size+2≤W3.heap.size by omega))
  have hS1:=hHeld.below (B':=_) (by omega) hb
  replace HFR:=Lib.hid (HFR.out.below (B':=_) (by omega) hb)
  replace HB:=Lib.hid (HB.out.trans (hb.mono (by omega)))
  replace hz:=Nat.le_trans hz hb.size
  clear hHeld
  clear hb ho5
  obtain⟨⟨z0,z1,z2,z3⟩,z4,z5,z6,z7⟩:=HFR.out
  dsimp only
  refine hK.out _ _ ?_ (fun hHeld=>?_)
  ·exact hS1
  clear hK K
  try simp only [Tk.put]
  refine Tk.x 6 rfl ?_
  try simp only [Tk.put]
  refine Tk.s 7 rfl (fun K hK=>?_)
  go_simp
  refine hK.out _ _ ?_ (fun hHeld=>?_)
  ·exact hHeld.stores (by omega) _ _ _ _
  clear hK K
  try simp only [Tk.put]
  refine Tk.x 8 rfl ?_
  try simp only [Tk.put]
  refine wpAnyH_done (by kernel_rfl) ?_ _
  go_wp2_with fail
  refine bodyPost_ret (Kit.results_ct rfl _ _ (w.heap.size+1) 0 [.int .i64 H,.int .i64 W,.int .i64 C,.slice A2 n c2] _ rfl (range_4 (by go_cell) (by go_cell) (by go_cell) (by go_cell)) Tryz.underlying32 rfl (by kernel_rfl)) rfl ?_
  refine⟨_,rfl,Kit.own_base (own_set (own_set (own_set (own_set HO.out _ _ ?_) _ _ ?_) _ _ ?_) _ _ ?_) ?_,?_⟩
  any_goals (first | omega | (simp;done) | (simp;omega))
  exact ((((HB.out.setCell (p:=⟨w.heap.size+1,0,none⟩) (by simp) _).setCell (p:=⟨w.heap.size+1,1,none⟩) (by simp) _).setCell (p:=⟨w.heap.size+1,2,none⟩) (by simp) _).setCell (p:=⟨w.heap.size+1,3,none⟩) (by simp) _)
 exact AllReadyH.nil
end Go.Proofs.YtkpngknbiecdiaaGreatDoor.CTensor
end
