/- Texts of this seat, one behind the other: ShapeRefTwo, TensorRef, FourOf. -/
import Derived.Laws.StructEq
import Derived.Test.YtkpngknbiecdiaaGreatDoorGB2
import Derived.Test.YtkpngknbiecdiaaGreatDoorGB5
import Derived.Test.YtkpngknbiecdiaaGreatDoorGB6
section
namespace Go.Proofs.YtkpngknbiecdiaaGreatDoor.CShape
open Go Go.ChangeShapes Go.WideShapes Go.ChangeAt Go.RowKit
open Plain CSat
set_option linter.unusedVariables false
theorem refSlide_wrong (H W C k s p o:Int) (hs:shapeB H W C=false) (wd:World) :
  Calls Tryz.prog 44 #[.agg #[.int .i64 H,.int .i64 W,.int .i64 C],.int .i64 k,.int .i64 s,.int .i64 p,.int .i64 o] wd fun e w'=>e=.returned (.tuple #[.agg #[.int .i64 0,.int .i64 0,.int .i64 0],.int .i64 5])∧Below wd.heap.size wd w':=by
 have HS:=Lib.hid (elemsZ_no hs)
 clear hs
 go_enter Tryz.func44,Tryz.ntmps44
 go_wp2_with (go_at_call 45;refine (refElems_to _ _ _ 0 HS.out _).mono ?_;rintro e w1 ⟨rfl,hb⟩;obtain⟨hc,hf⟩:=Kit.bcell hb)
 have hs1:wd.heap.size+1 < w1.heap.size:=by have:=hb.size;simp at this;omega
 have hB:Below wd.heap.size wd w1:=(((Below.refl _ _).alloc (Nat.le_refl _) _).alloc (by simp) _).trans (hb.mono (by simp;omega))
 refine bodyPost_ret (Kit.results_ct rfl _ _ (wd.heap.size+1) 0 [.int .i64 0,.int .i64 0,.int .i64 0] _ rfl (Kit.range_3 (by go_cell) (by go_cell) (by go_cell)) Tryz.underlying30 rfl (by kernel_rfl)) rfl ?_
 exact⟨rfl,by go_grown⟩
theorem refSlide_one (H W C k s p o m e1:Int) (hs:shapeB H W C=true) (hm:stepsM H k s p=m) (he:stepsE H k s p=e1) (hn:e1≠0) (wd:World) :
  Calls Tryz.prog 44 #[.agg #[.int .i64 H,.int .i64 W,.int .i64 C],.int .i64 k,.int .i64 s,.int .i64 p,.int .i64 o] wd fun e w'=>e=.returned (.tuple #[.agg #[.int .i64 0,.int .i64 0,.int .i64 0],.int .i64 e1])∧Below wd.heap.size wd w':=by
 obtain⟨n,hn0,hn1,hn2⟩:=elemsZ_some hs
 have HS:=Lib.hid hn0
 have HM:=Lib.hid hm
 have HE:=Lib.hid he
 clear hs hn0 hm he
 go_enter Tryz.func44,Tryz.ntmps44
 go_wp2_with (first
  | (go_at_call 45;refine (refElems_to _ _ _ n HS.out _).mono ?_;rintro e w1 ⟨rfl,hb⟩;obtain⟨hc,hf⟩:=Kit.bcell hb)
  | (go_at_call 95;refine (refSteps_to _ _ _ _ m e1 HM.out HE.out _).mono ?_;rintro e w' ⟨rfl,rfl⟩))
 have hs1:wd.heap.size+1 < w1.heap.size:=by have:=hb.size;simp at this;omega
 have hB:Below wd.heap.size wd w1:=(((Below.refl _ _).alloc (Nat.le_refl _) _).alloc (by simp) _).trans (hb.mono (by simp;omega))
 refine bodyPost_ret (Kit.results_ct rfl _ _ (wd.heap.size+1) 0 [.int .i64 0,.int .i64 0,.int .i64 0] _ rfl (Kit.range_3 (by go_cell) (by go_cell) (by go_cell)) Tryz.underlying30 rfl (by kernel_rfl)) rfl ?_
 exact⟨rfl,by go_grown⟩
theorem refSlide_two (H W C k s p o m m2 e2:Int) (hs:shapeB H W C=true) (hm:stepsM H k s p=m) (he:stepsE H k s p=0) (hm2:stepsM W k s p=m2) (he2:stepsE W k s p=e2) (hn:e2≠0) (wd:World) :
  Calls Tryz.prog 44 #[.agg #[.int .i64 H,.int .i64 W,.int .i64 C],.int .i64 k,.int .i64 s,.int .i64 p,.int .i64 o] wd fun e w'=>e=.returned (.tuple #[.agg #[.int .i64 0,.int .i64 0,.int .i64 0],.int .i64 e2])∧Below wd.heap.size wd w':=by
 obtain⟨n,hn0,hn1,hn2⟩:=elemsZ_some hs
 have HS:=Lib.hid hn0
 have HM:=Lib.hid hm
 have HE:=Lib.hid he
 have HM2:=Lib.hid hm2
 have HE2:=Lib.hid he2
 clear hs hn0 hm he hm2 he2
 go_enter Tryz.func44,Tryz.ntmps44
 go_wp2_with (first
  | (go_at_call 45;((with_reducible refine (refElems_to H W C n HS.out _).mono ?_);rintro e w1 ⟨rfl,hb⟩;obtain⟨hc,hf⟩:=Kit.bcell hb))
  | (go_at_call 95;((with_reducible refine (refSteps_to H k s p m 0 HM.out HE.out _).mono ?_);rintro e w' ⟨rfl,rfl⟩))
  | (go_at_call 95;((with_reducible refine (refSteps_to W k s p m2 e2 HM2.out HE2.out _).mono ?_);rintro e w' ⟨rfl,rfl⟩)))
 have hs1:wd.heap.size+1 < w1.heap.size:=by have:=hb.size;simp at this;omega
 have hB:Below wd.heap.size wd w1:=(((Below.refl _ _).alloc (Nat.le_refl _) _).alloc (by simp) _).trans (hb.mono (by simp;omega))
 refine bodyPost_ret (Kit.results_ct rfl _ _ (wd.heap.size+1) 0 [.int .i64 0,.int .i64 0,.int .i64 0] _ rfl (Kit.range_3 (by go_cell) (by go_cell) (by go_cell)) Tryz.underlying30 rfl (by kernel_rfl)) rfl ?_
 exact⟨rfl,by go_grown⟩
theorem refSlide_bad (H W C k s p o m m2:Int) (hs:shapeB H W C=true) (hm:stepsM H k s p=m) (he:stepsE H k s p=0) (hm2:stepsM W k s p=m2) (he2:stepsE W k s p=0) (hr:shapeB m m2 o=false) (wd:World) :
  Calls Tryz.prog 44 #[.agg #[.int .i64 H,.int .i64 W,.int .i64 C],.int .i64 k,.int .i64 s,.int .i64 p,.int .i64 o] wd fun e w'=>e=.returned (.tuple #[.agg #[.int .i64 0,.int .i64 0,.int .i64 0],.int .i64 5])∧Below wd.heap.size wd w':=by
 obtain⟨n,hn0,hn1,hn2⟩:=elemsZ_some hs
 have HS:=Lib.hid hn0
 have HM:=Lib.hid hm
 have HE:=Lib.hid he
 have HM2:=Lib.hid hm2
 have HE2:=Lib.hid he2
 have HR:=Lib.hid (elemsZ_no hr)
 clear hs hn0 hm he hm2 he2 hr
 go_enter Tryz.func44,Tryz.ntmps44
 go_wp2_with (first
  | (go_at_call 45;((with_reducible refine (refElems_to H W C n HS.out _).mono ?_);rintro e w1 ⟨rfl,hb⟩;obtain⟨hc,hf⟩:=Kit.bcell hb))
  | (go_at_call 95;((with_reducible refine (refSteps_to H k s p m 0 HM.out HE.out _).mono ?_);rintro e w' ⟨rfl,rfl⟩))
  | (go_at_call 95;((with_reducible refine (refSteps_to W k s p m2 0 HM2.out HE2.out _).mono ?_);rintro e w' ⟨rfl,rfl⟩))
  | (go_at_call 45;((with_reducible refine (refElems_to m m2 o 0 HR.out _).mono ?_);(rintro e w2 ⟨rfl,hb2⟩;have hs1:wd.heap.size+1 < w1.heap.size:=(by have:=hb.size;simp at this;omega);have d0:w2.cell? ⟨wd.heap.size+1,0,none⟩=some (.int .i64 0):=(hb2.cell (p:=⟨wd.heap.size+1,0,none⟩) (by simp;omega)).trans (by go_cell);have d1:w2.cell? ⟨wd.heap.size+1,1,none⟩=some (.int .i64 0):=(hb2.cell (p:=⟨wd.heap.size+1,1,none⟩) (by simp;omega)).trans (by go_cell);have d2:w2.cell? ⟨wd.heap.size+1,2,none⟩=some (.int .i64 0):=(hb2.cell (p:=⟨wd.heap.size+1,2,none⟩) (by simp;omega)).trans (by go_cell);have g0:w2.frozen? ⟨wd.heap.size+1,0,none⟩=false:=(hb2.frozen (p:=⟨wd.heap.size+1,0,none⟩) (by simp;omega)).trans (by go_cell);have g1:w2.frozen? ⟨wd.heap.size+1,1,none⟩=false:=(hb2.frozen (p:=⟨wd.heap.size+1,1,none⟩) (by simp;omega)).trans (by go_cell);have g2:w2.frozen? ⟨wd.heap.size+1,2,none⟩=false:=(hb2.frozen (p:=⟨wd.heap.size+1,2,none⟩) (by simp;omega)).trans (by go_cell);have c0:w2.cell? ⟨w1.heap.size,0,none⟩=some (.int .i64 m):=(hb2.cell (p:=⟨w1.heap.size,0,none⟩) (by simp)).trans (by go_cell);have c1:w2.cell? ⟨w1.heap.size,1,none⟩=some (.int .i64 m2):=(hb2.cell (p:=⟨w1.heap.size,1,none⟩) (by simp)).trans (by go_cell);have c2:w2.cell? ⟨w1.heap.size,2,none⟩=some (.int .i64 o):=(hb2.cell (p:=⟨w1.heap.size,2,none⟩) (by simp)).trans (by go_cell);clear hc hf))))
 have hs2:w1.heap.size < w2.heap.size:=by have:=hb2.size;simp at this;omega
 have hB:Below wd.heap.size wd w1:=(((Below.refl _ _).alloc (Nat.le_refl _) _).alloc (by simp) _).trans (hb.mono (by simp;omega))
 have hB2:Below wd.heap.size wd w2:=(by go_grown:Below wd.heap.size wd _).trans (hb2.mono (by simp;omega))
 refine bodyPost_ret (Kit.results_ct rfl _ _ (wd.heap.size+1) 0 [.int .i64 0,.int .i64 0,.int .i64 0] _ rfl (Kit.range_3 (by go_cell) (by go_cell) (by go_cell)) Tryz.underlying30 rfl (by kernel_rfl)) rfl ?_
 exact⟨rfl,by go_grown⟩
theorem refSlide_good (H W C k s p o m m2:Int) (hs:shapeB H W C=true) (hm:stepsM H k s p=m) (he:stepsE H k s p=0) (hm2:stepsM W k s p=m2) (he2:stepsE W k s p=0) (hr:shapeB m m2 o=true) (wd:World) :
  Calls Tryz.prog 44 #[.agg #[.int .i64 H,.int .i64 W,.int .i64 C],.int .i64 k,.int .i64 s,.int .i64 p,.int .i64 o] wd fun e w'=>e=.returned (.tuple #[.agg #[.int .i64 m,.int .i64 m2,.int .i64 o],.int .i64 0])∧Below wd.heap.size wd w':=by
 obtain⟨n,hn0,hn1,hn2⟩:=elemsZ_some hs
 have HS:=Lib.hid hn0
 have HM:=Lib.hid hm
 have HE:=Lib.hid he
 have HM2:=Lib.hid hm2
 have HE2:=Lib.hid he2
 obtain⟨n2,hq0,hq1,hq2⟩:=elemsZ_some hr
 have HR:=Lib.hid hq0
 clear hq0 hs hn0 hm he hm2 he2 hr
 go_enter Tryz.func44,Tryz.ntmps44
 go_wp2_with (first
  | (go_at_call 45;((with_reducible refine (refElems_to H W C n HS.out _).mono ?_);rintro e w1 ⟨rfl,hb⟩;obtain⟨hc,hf⟩:=Kit.bcell hb))
  | (go_at_call 95;((with_reducible refine (refSteps_to H k s p m 0 HM.out HE.out _).mono ?_);rintro e w' ⟨rfl,rfl⟩))
  | (go_at_call 95;((with_reducible refine (refSteps_to W k s p m2 0 HM2.out HE2.out _).mono ?_);rintro e w' ⟨rfl,rfl⟩))
  | (go_at_call 45;((with_reducible refine (refElems_to m m2 o n2 HR.out _).mono ?_);(rintro e w2 ⟨rfl,hb2⟩;have hs1:wd.heap.size+1 < w1.heap.size:=(by have:=hb.size;simp at this;omega);have d0:w2.cell? ⟨wd.heap.size+1,0,none⟩=some (.int .i64 0):=(hb2.cell (p:=⟨wd.heap.size+1,0,none⟩) (by simp;omega)).trans (by go_cell);have d1:w2.cell? ⟨wd.heap.size+1,1,none⟩=some (.int .i64 0):=(hb2.cell (p:=⟨wd.heap.size+1,1,none⟩) (by simp;omega)).trans (by go_cell);have d2:w2.cell? ⟨wd.heap.size+1,2,none⟩=some (.int .i64 0):=(hb2.cell (p:=⟨wd.heap.size+1,2,none⟩) (by simp;omega)).trans (by go_cell);have g0:w2.frozen? ⟨wd.heap.size+1,0,none⟩=false:=(hb2.frozen (p:=⟨wd.heap.size+1,0,none⟩) (by simp;omega)).trans (by go_cell);have g1:w2.frozen? ⟨wd.heap.size+1,1,none⟩=false:=(hb2.frozen (p:=⟨wd.heap.size+1,1,none⟩) (by simp;omega)).trans (by go_cell);have g2:w2.frozen? ⟨wd.heap.size+1,2,none⟩=false:=(hb2.frozen (p:=⟨wd.heap.size+1,2,none⟩) (by simp;omega)).trans (by go_cell);have c0:w2.cell? ⟨w1.heap.size,0,none⟩=some (.int .i64 m):=(hb2.cell (p:=⟨w1.heap.size,0,none⟩) (by simp)).trans (by go_cell);have c1:w2.cell? ⟨w1.heap.size,1,none⟩=some (.int .i64 m2):=(hb2.cell (p:=⟨w1.heap.size,1,none⟩) (by simp)).trans (by go_cell);have c2:w2.cell? ⟨w1.heap.size,2,none⟩=some (.int .i64 o):=(hb2.cell (p:=⟨w1.heap.size,2,none⟩) (by simp)).trans (by go_cell);clear hc hf))))
 have hs2:w1.heap.size < w2.heap.size:=by have:=hb2.size;simp at this;omega
 have hB:Below wd.heap.size wd w1:=(((Below.refl _ _).alloc (Nat.le_refl _) _).alloc (by simp) _).trans (hb.mono (by simp;omega))
 have hB2:Below wd.heap.size wd w2:=(by go_grown:Below wd.heap.size wd _).trans (hb2.mono (by simp;omega))
 refine bodyPost_ret (Kit.results_ct rfl _ _ (wd.heap.size+1) 0 [.int .i64 m,.int .i64 m2,.int .i64 o] _ rfl (Kit.range_3 (by go_cell) (by go_cell) (by go_cell)) Tryz.underlying30 rfl (by kernel_rfl)) rfl ?_
 exact⟨rfl,by go_grown⟩
theorem refSlide_to (H W C k s p o e:Int) (v:Array Value) (he:slideE H W C k s p o=e) (hv:slideS H W C k s p o=v) (wd:World) :
  Calls Tryz.prog 44 #[.agg #[.int .i64 H,.int .i64 W,.int .i64 C],.int .i64 k,.int .i64 s,.int .i64 p,.int .i64 o] wd fun r w'=>r=.returned (.tuple #[.agg v,.int .i64 e])∧Below wd.heap.size wd w':=by
 subst hv
 unfold slideS
 rw [he]
 unfold slideE at he
 cases hs:shapeB H W C
 ·rw [if_pos hs] at he
  subst he
  exact refSlide_wrong H W C k s p o hs wd
 ·rw [if_neg (by simp [hs])] at he
  by_cases h1:stepsE H k s p=0
  ·rw [if_neg (by simp [h1])] at he
   by_cases h2:stepsE W k s p=0
   ·rw [if_neg (by simp [h2])] at he
    cases hr:shapeB (stepsM H k s p) (stepsM W k s p) o
    ·rw [if_neg (by simp [hr])] at he
     subst he
     exact refSlide_bad H W C k s p o _ _ hs rfl h1 rfl h2 hr wd
    ·rw [if_pos hr] at he
     subst he
     exact refSlide_good H W C k s p o _ _ hs rfl h1 rfl h2 hr wd
   ·rw [if_pos h2] at he
    subst he
    rw [if_neg h2]
    exact refSlide_two H W C k s p o _ _ _ hs rfl h1 rfl rfl h2 wd
  ·rw [if_pos h1] at he
   subst he
   rw [if_neg h1]
   exact refSlide_one H W C k s p o _ _ hs rfl rfl h1 wd
def indexZ (H W C h w c z:Int):Int:=if inB H W C h w c then (h * W+w) * C+c else z
theorem indexZ_yes {H W C h w c z:Int} (hs:inB H W C h w c=true):indexZ H W C h w c z=(h * W+w) * C+c:=by unfold indexZ;rw [if_pos hs]
theorem indexZ_no {H W C h w c z:Int} (hs:inB H W C h w c=false):indexZ H W C h w c z=z:=by unfold indexZ;rw [if_neg (by simp [hs])]
theorem index_to (H W C h w c r:Int) (b:Bool) (hs:inB H W C h w c=b) (hr:indexZ H W C h w c 0=r) (wd:World) :
  Calls Tryz.prog 133 #[.agg #[.int .i64 H,.int .i64 W,.int .i64 C],.int .i64 h,.int .i64 w,.int .i64 c] wd fun e w'=>e=.returned (.tuple #[.int .i64 r,.bool b])∧Below wd.heap.size wd w':=by
 subst hr
 cases b
 ·rw [indexZ_no hs];exact index_no H W C h w c hs wd
 ·rw [indexZ_yes hs]
  simp only [inB,Bool.and_eq_true,decide_eq_true_eq] at hs
  obtain⟨h0,h1,h2,h3,h4,h5,h6⟩:=hs
  exact index_yes H W C h w c _ h0 h1 h2 h3 h4 h5 h6 rfl wd
end Go.Proofs.YtkpngknbiecdiaaGreatDoor.CShape
end
section
namespace Go.Proofs.YtkpngknbiecdiaaGreatDoor.CTensor
open Go Go.ChangeShapes Go.WideShapes Go.ChangeAt Go.RowKit
open Plain CSat CShape
set_option linter.unusedVariables false
theorem refRight_to (H W C:Int) (A:Option Addr) (n c:Nat) (b:Bool) (hb:tensB H W C n=b) (w:World) :
  Calls Tryz.prog 15 #[.agg #[.int .i64 H,.int .i64 W,.int .i64 C,.slice A n c]] w fun e w'=>e=.returned (.bool b)∧Below w.heap.size w w':=by
 obtain⟨m,hm⟩:∃ m,elemsZ H W C=m:=⟨_,rfl⟩
 have hT:=tens_eq (n:=n) hm hb
 have HM:=Lib.hid hm
 have HB0:=Lib.hid (((Below.refl w.heap.size w).alloc (Nat.le_refl _) (.cells #[.int .i64 H,.int .i64 W,.int .i64 C,.slice A n c] 32)).drew)
 cases hr:shapeB H W C
 all_goals
  have HR:=Lib.hid hr
  rw [hr] at hT
  clear hr hb hm
 ·obtain⟨h0,rfl⟩:=hT
  have hz:m=0:=h0
  subst hz
  go_enter Tryz.func15,Tryz.ntmps15
  go_wp2_with fail
  refine wp_region_held_drew (S:=BoxAt w.heap.size H W C A n c) (by kernel_rfl) (BoxAt.new _ _ _ _ _ _ _ _) (fun hHeld=>?_)
  refine Tk.y 0 (v:=?_) rfl ?_ ?_
  rotate_left
  ·intro wS hSw
   obtain⟨s1,s2,s3,s4⟩:=hSw
   first | (go_simp;done) | (go_simp;with_reducible rfl)
  try simp only [Tk.put]
  refine Tk.y 1 (v:=?_) rfl ?_ ?_
  rotate_left
  ·intro wS hSw
   obtain⟨s1,s2,s3,s4⟩:=hSw
   first | (go_simp;done) | (go_simp;with_reducible rfl)
  try simp only [Tk.put]
  refine Tk.s 2 rfl (fun K hK=>?_)
  go_simp
  go_at_call 45
  refine (CShape.refElems_to H W C 0 HM.out _).mono ?_
  rintro e w1 ⟨rfl,hb1⟩
  have hS1:=hHeld.below (by first | (simp;done) | assumption) hb1
  have hz1:w.heap.size < w1.heap.size:=by have:=hb1.size;first | omega | (simp at this;omega)
  have HB1:=Lib.hid (HB0.out.trans (hb1.mono HB0.out.size))
  clear hb1 hHeld
  dsimp only
  refine hK.out _ _ ?_ (fun hHeld=>?_)
  ·exact hS1
  clear hK K
  try simp only [Tk.put]
  refine Tk.x 3 rfl ?_
  try simp only [Tk.put]
  refine Tk.x 4 rfl ?_
  try simp only [Tk.put]
  refine Tk.t 5 (v:=undef) rfl (Or.inr ⟨by rfl,rfl⟩) (by assumption) ?_
  try simp only [Tk.put]
  refine Tk.t 6 (v:=undef) rfl (Or.inr ⟨by rfl,rfl⟩) (by assumption) ?_
  try simp only [Tk.put]
  refine Tk.t 7 (v:=undef) rfl (Or.inr ⟨by rfl,rfl⟩) (by assumption) ?_
  try simp only [Tk.put]
  refine Tk.t 8 (v:=undef) rfl (Or.inr ⟨by rfl,rfl⟩) (by assumption) ?_
  try simp only [Tk.put]
  refine Tk.t 9 (v:=undef) rfl (Or.inr ⟨by rfl,rfl⟩) (by assumption) ?_
  try simp only [Tk.put]
  refine Tk.t 10 (v:=undef) rfl (Or.inr ⟨by rfl,rfl⟩) (by assumption) ?_
  try simp only [Tk.put]
  refine Tk.t 11 (v:=undef) rfl (Or.inr ⟨by rfl,rfl⟩) (by assumption) ?_
  try simp only [Tk.put]
  refine Tk.x 12 rfl ?_
  try simp only [Tk.put]
  refine Tk.x 13 rfl ?_
  try simp only [Tk.put]
  refine wpAnyH_done (by kernel_rfl) ?_ _
  go_wp2
  go_ret
  exact⟨rfl,HB1.out⟩
 ·obtain⟨h0,rfl⟩:=hT
  go_enter Tryz.func15,Tryz.ntmps15
  go_wp2_with fail
  refine wp_region_held_drew (S:=BoxAt w.heap.size H W C A n c) (by kernel_rfl) (BoxAt.new _ _ _ _ _ _ _ _) (fun hHeld=>?_)
  refine Tk.y 0 (v:=?_) rfl ?_ ?_
  rotate_left
  ·intro wS hSw
   obtain⟨s1,s2,s3,s4⟩:=hSw
   first | (go_simp;done) | (go_simp;with_reducible rfl)
  try simp only [Tk.put]
  refine Tk.y 1 (v:=?_) rfl ?_ ?_
  rotate_left
  ·intro wS hSw
   obtain⟨s1,s2,s3,s4⟩:=hSw
   first | (go_simp;done) | (go_simp;with_reducible rfl)
  try simp only [Tk.put]
  refine Tk.s 2 rfl (fun K hK=>?_)
  go_simp
  go_at_call 45
  refine (CShape.refElems_to H W C m HM.out _).mono ?_
  rintro e w1 ⟨rfl,hb1⟩
  have hS1:=hHeld.below (by first | (simp;done) | assumption) hb1
  have hz1:w.heap.size < w1.heap.size:=by have:=hb1.size;first | omega | (simp at this;omega)
  have HB1:=Lib.hid (HB0.out.trans (hb1.mono HB0.out.size))
  clear hb1 hHeld
  dsimp only
  refine hK.out _ _ ?_ (fun hHeld=>?_)
  ·exact hS1
  clear hK K
  try simp only [Tk.put]
  refine Tk.x 3 rfl ?_
  try simp only [Tk.put]
  refine Tk.x 4 rfl ?_
  try simp only [Tk.put]
  refine Tk.y 5 (v:=?_) rfl ?_ ?_
  rotate_left
  ·intro wS hSw
   obtain⟨s1,s2,s3,s4⟩:=hSw
   first | (go_simp;done) | (go_simp;with_reducible rfl)
  try simp only [Tk.put]
  refine Tk.y 6 (v:=?_) rfl ?_ ?_
  rotate_left
  ·intro wS hSw
   obtain⟨s1,s2,s3,s4⟩:=hSw
   first | (go_simp;done) | (go_simp;with_reducible rfl)
  try simp only [Tk.put]
  refine Tk.y 8 (v:=?_) rfl ?_ ?_
  rotate_left
  ·intro wS hSw
   obtain⟨s1,s2,s3,s4⟩:=hSw
   first | (go_simp;done) | (go_simp;with_reducible rfl)
  try simp only [Tk.put]
  refine Tk.y 9 (v:=?_) rfl ?_ ?_
  rotate_left
  ·intro wS hSw
   obtain⟨s1,s2,s3,s4⟩:=hSw
   first | (go_simp;done) | (go_simp;with_reducible rfl)
  try simp only [Tk.put]
  refine Tk.y 10 (v:=?_) rfl ?_ ?_
  rotate_left
  ·intro wS hSw
   obtain⟨s1,s2,s3,s4⟩:=hSw
   first | (go_simp;done) | (go_simp;with_reducible rfl)
  try simp only [Tk.put]
  refine Tk.s 7 rfl (fun K hK=>?_)
  go_simp
  go_at_call 45
  refine (CShape.refElems_to H W C m HM.out _).mono ?_
  rintro e w2 ⟨rfl,hb2⟩
  have hS2:=hHeld.below (by first | (simp;done) | assumption) hb2
  have hz2:w.heap.size < w2.heap.size:=by have:=hb2.size;first | omega | (simp at this;omega)
  have HB2:=Lib.hid (HB1.out.trans (hb2.mono HB1.out.size))
  clear hb2 hHeld
  dsimp only
  refine hK.out _ _ ?_ (fun hHeld=>?_)
  ·exact hS2
  clear hK K
  try simp only [Tk.put]
  refine Tk.x 11 rfl ?_
  try simp only [Tk.put]
  refine Tk.x 12 rfl ?_
  try simp only [Tk.put]
  refine Tk.x 13 rfl ?_
  try simp only [Tk.put]
  refine wpAnyH_done (by kernel_rfl) ?_ _
  go_wp2
  go_ret
  exact⟨bool_comm _ _,HB2.out⟩
end Go.Proofs.YtkpngknbiecdiaaGreatDoor.CTensor
end
section
namespace Go.Proofs.YtkpngknbiecdiaaGreatDoor.CFour
open Go Go.ChangeShapes Go.WideShapes Go.ChangeAt Go.RowKit
open FloatNum
set_option linter.unusedVariables false
theorem ixi0 (a b c d:Int) (w:World):(Instr.index 192 (.agg #[.int .i16 a,.int .i16 b,.int .i16 c,.int .i16 d]) (.int .i64 0)).run Tryz.prog w=.ok (.int .i16 a) w:=by kernel_rfl
theorem ixi1 (a b c d:Int) (w:World):(Instr.index 192 (.agg #[.int .i16 a,.int .i16 b,.int .i16 c,.int .i16 d]) (.int .i64 1)).run Tryz.prog w=.ok (.int .i16 b) w:=by kernel_rfl
theorem ixi2 (a b c d:Int) (w:World):(Instr.index 192 (.agg #[.int .i16 a,.int .i16 b,.int .i16 c,.int .i16 d]) (.int .i64 2)).run Tryz.prog w=.ok (.int .i16 c) w:=by kernel_rfl
theorem ixi3 (a b c d:Int) (w:World):(Instr.index 192 (.agg #[.int .i16 a,.int .i16 b,.int .i16 c,.int .i16 d]) (.int .i64 3)).run Tryz.prog w=.ok (.int .i16 d) w:=by kernel_rfl
theorem isC_int (n:Int) (hn:In16 n):IsC (.complex .f64 (FloatKind.f64.nearest n) 0) (n,0):=⟨_,_,rfl,IsF.ofInt n (by unfold In16 at hn;show n.natAbs < 2 ^ 53;omega),isF_zero⟩
set_option maxHeartbeats 4000000 in
theorem of_to (a b c d:Int) (ha:In16 a) (hb:In16 b) (hc:In16 c) (hd:In16 d) (w:World) :
  Calls Tryz.prog 153 #[.agg #[.int .i16 a,.int .i16 b,.int .i16 c,.int .i16 d]] w fun e' w'=>(∃ S,e'=.returned (agg4 S)∧∀ i,i < 4→IsC (S i) (gpart (lp a b c d) (-1) i 4))∧Below w.heap.size w w':=by
 have HL:=Lib.hid (l4_in ha hb hc hd)
 have HP:=Lib.hid (lp_bd ha hb hc hd)
 clear ha hb hc hd
 go_enter Tryz.func153,Tryz.ntmps153
 go_wp2_with fail
 go_loopw [7] (fun u wr=>∃ (k:Nat) (S:Nat→Value),k≤4∧u=.int .i64 k∧Hid (FillR (lp a b c d) k S)∧Hid (Four (w.heap.size+1+1) S wr)∧Hid (Four (w.heap.size+1) (fun _=>z0) wr)∧Hid (Below w.heap.size w wr)) (fun u _=>4 - (intOf u).toNat)
 case atStart =>
  have h2:=Four.new ((w.alloc (.cells #[.int .i16 a,.int .i16 b,.int .i16 c,.int .i16 d] 192)).alloc (.cells #[z0,z0,z0,z0] 179)) z0 179
  have h1:=(Four.new (w.alloc (.cells #[.int .i16 a,.int .i16 b,.int .i16 c,.int .i16 d] 192)) z0 179).below ((Below.refl _ _).alloc (Nat.le_refl _) (.cells #[z0,z0,z0,z0] 179)) (by simp)
  have e2:((w.alloc (.cells #[.int .i16 a,.int .i16 b,.int .i16 c,.int .i16 d] 192)).alloc (.cells #[z0,z0,z0,z0] 179)).heap.size=w.heap.size+1+1:=by simp
  have e1:(w.alloc (.cells #[.int .i16 a,.int .i16 b,.int .i16 c,.int .i16 d] 192)).heap.size=w.heap.size+1:=by simp
  rw [e2] at h2
  rw [e1] at h1
  exact⟨0,fun _=>z0,by omega,rfl,Lib.hid (FillR.start _),Lib.hid h2,Lib.hid h1,Lib.hid ((((Below.refl _ _).alloc (Nat.le_refl _) _).alloc (by simp) _).alloc (by simp;omega) _)⟩
 case round =>
  obtain⟨k,S,hk,rfl,hS,hF,hR,hBw⟩:=hrel
  by_cases hlt:k < 4
  ·have hv:=isC_int _ (HL.out k)
   have HV:Hid (FillR (lp a b c d) (k+1) _):=Lib.hid (hS.out.step (v:=.complex .f64 (FloatKind.f64.nearest (l4 a b c d k)) 0) hv)
   have HG:=Lib.hid (hF.out.set hlt (.complex .f64 (FloatKind.f64.nearest (l4 a b c d k)) 0))
   have HR1:=Lib.hid (hR.out.other (g':=w.heap.size+1+1) (k:=k) (.complex .f64 (FloatKind.f64.nearest (l4 a b c d k)) 0) (by omega))
   have HB1:=Lib.hid (hBw.out.setCell (p:=⟨w.heap.size+1+1,k,none⟩) (by show w.heap.size≤w.heap.size+1+1;omega) (.complex .f64 (FloatKind.f64.nearest (l4 a b c d k)) 0))
   have hst:=fun x=>st_c x 0
   have c0:=hF.out.1 0 (by omega)
   have c1:=hF.out.1 1 (by omega)
   have c2:=hF.out.1 2 (by omega)
   have c3:=hF.out.1 3 (by omega)
   have f0:=hF.out.2.1 0 (by omega)
   have f1:=hF.out.2.1 1 (by omega)
   have f2:=hF.out.2.1 2 (by omega)
   have f3:=hF.out.2.1 3 (by omega)
   have x0:=ixi0 a b c d
   have x1:=ixi1 a b c d
   have x2:=ixi2 a b c d
   have x3:=ixi3 a b c d
   clear hv
   obtain rfl | rfl | rfl | rfl:=lt4 hlt
   all_goals
    go_wp2
    go_roundw
    case rel=>exact⟨_,_,by omega,by go_num,HV,HG,HR1,HB1⟩
    case measure=>simp [intOf]
  ·have hk4:k=4:=by omega
   subst hk4
   have HX:=Lib.hid (fun i (hi:i < 4)=>hS.out.all (i:=i) hi)
   have hn1:IsC (.complex .f64 0 13830554455654793216) (0, -1):=⟨_,_,rfl,isF_zero,isF_neg⟩
   have HN:=Lib.hid hn1
   have c0:=hF.out.1 0 (by omega)
   have c1:=hF.out.1 1 (by omega)
   have c2:=hF.out.1 2 (by omega)
   have c3:=hF.out.1 3 (by omega)
   clear hlt hk hn1
   go_wp2_with (go_at_call 158;((with_reducible refine (turned_to S (lp a b c d) (.complex .f64 0 13830554455654793216) (-1) (.inr rfl) 32768 (by decide) HX.out HP.out HN.out _).mono ?_);rintro e2 w2 ⟨⟨Y,rfl,hAll⟩,hb2⟩;obtain⟨hcc,hff⟩:=Kit.bcell hb2;have hRR:=hR.out.below hb2 hR.out.2.2;have hBx:=hBw.out.trans (hb2.mono hBw.out.size);skip))
   have d0:=hRR.1 0 (by omega)
   have d1:=hRR.1 1 (by omega)
   have d2:=hRR.1 2 (by omega)
   have d3:=hRR.1 3 (by omega)
   have f0:=hRR.2.1 0 (by omega)
   have f1:=hRR.2.1 1 (by omega)
   have f2:=hRR.2.1 2 (by omega)
   have f3:=hRR.2.1 3 (by omega)
   obtain⟨a0,b0,s0, -⟩:=hAll (0:Nat) (by omega)
   obtain⟨a1,b1,s1, -⟩:=hAll (1:Nat) (by omega)
   obtain⟨a2,b2,s2, -⟩:=hAll (2:Nat) (by omega)
   obtain⟨a3,b3,s3, -⟩:=hAll (3:Nat) (by omega)
   have t0:=st_c a0 b0
   have t1:=st_c a1 b1
   have t2:=st_c a2 b2
   have t3:=st_c a3 b3
   have HA:=Lib.hid hAll
   clear hAll
   have HS0:=Lib.hid s0
   have HS1:=Lib.hid s1
   have HS2:=Lib.hid s2
   have HS3:=Lib.hid s3
   go_wp2
   refine bodyPost_ret (Kit.results_c rfl _ _ (w.heap.size+1) 0 [.complex .f64 a0 b0,.complex .f64 a1 b1,.complex .f64 a2 b2,.complex .f64 a3 b3] _ rfl (range_4 (by go_cell) (by go_cell) (by go_cell) (by go_cell)) Tryz.underlying179 rfl (by kernel_rfl)) rfl ?_
   refine⟨⟨Y,?_,HA.out⟩,?_⟩
   ·unfold agg4
    rw [HS0.out,HS1.out,HS2.out,HS3.out]
   ·have:=hBx
    go_grown
end Go.Proofs.YtkpngknbiecdiaaGreatDoor.CFour
end
