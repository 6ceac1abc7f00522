/- -/
import Derived.Deep.RegionHeld3
import Derived.Handy
import Derived.Test.YtoffcaldhojjoaaDoorGVP3
open Go.Lib (hid)
open Nat (le_refl lt_of_succ_lt lt_succ_self)
set_option linter.unusedVariables false
set_option linter.unusedSimpArgs false
set_option maxRecDepth 100000
set_option maxHeartbeats 16000000
namespace Go.Proofs.YtoffcaldhojjoaaDoor
namespace CSat
end CSat
open Go Go.ChangeShapes Go.WideShapes Go.ChangeAt Go.RowKit
section
namespace CShape
open Plain CSat
/-! ### windows -/
def argsB (n k s p:Int):Bool:=decide (1≤n∧n≤1024∧1≤k∧k≤5∧1≤s∧s≤4∧0≤p∧p≤4∧p < k)
def zah (n k s p:Int):Int:=if argsB n k s p then (if n+2 * p - k < 0 then 0 else (n+2 * p - k) / s+1) else 0
def za4 (n k s p:Int):Int:=if argsB n k s p then (if n+2 * p - k < 0 then 5 else 0) else 2
theorem za8 {n k s p:Int} (h:argsB n k s p=true):1≤n∧n≤1024∧1≤k∧k≤5∧1≤s∧s≤4∧0≤p∧p≤4∧p < k:=by simpa [argsB] using h
theorem argsB_no {n k s p:Int} (h:argsB n k s p=false):(n < 1∨1024 < n)∨(1≤n∧n≤1024∧(k < 1∨5 < k))∨(1≤n∧n≤1024∧1≤k∧k≤5∧(s < 1∨4 < s)) ∨
  (1≤n∧n≤1024∧1≤k∧k≤5∧1≤s∧s≤4∧(p < 0∨4 < p))∨(1≤n∧n≤1024∧1≤k∧k≤5∧1≤s∧s≤4∧0≤p∧p≤4∧k≤p):=by
 simp [argsB] at h;omega
theorem steps_arg (n k s p:Int) (h:argsB n k s p=false) (w:World) :
  Calls Tryd.prog 87 #[.int .i64 n,.int .i64 k,.int .i64 s,.int .i64 p] w fun e w'=>e=.returned (.tuple #[.int .i64 0,.int .i64 2])∧w=w':=by
 rcases argsB_no h with h1 | ⟨h1,h2,h3⟩ | ⟨h1,h2,h3,h4,h5⟩ | ⟨h1,h2,h3,h4,h5,h6,h7⟩ | ⟨h1,h2,h3,h4,h5,h6,h7,h8,h9⟩
 all_goals
  clear h
  go_enter Tryd.func87,Tryd.ntmps87
  go_wp2_with (first
   | (go_at_call 65;refine (zbh _ _ _ (by omega) (by omega) _).mono ?_;rintro e w' ⟨rfl,rfl⟩)
   | (go_at_call 65;refine (within_no _ _ _ (by omega) _).mono ?_;rintro e w' ⟨rfl,rfl⟩))
  go_ret2
  exact⟨rfl,rfl⟩
theorem steps_in (n k s p:Int) (h:argsB n k s p=true) (w:World) :
  Calls Tryd.prog 87 #[.int .i64 n,.int .i64 k,.int .i64 s,.int .i64 p] w fun e w'=>e=.returned (.tuple #[.int .i64 (if n+2 * p - k < 0 then 0 else (n+2 * p - k) / s+1),.int .i64 (if n+2 * p - k < 0 then 5 else 0)])∧w=w':=by
 obtain⟨h1,h2,h3,h4,h5,h6,h7,h8,h9⟩:=za8 h
 clear h
 by_cases hr:n+2 * p - k < 0
 ·rw [if_pos hr,if_pos hr]
  go_enter Tryd.func87,Tryd.ntmps87
  go_wp2_with (go_at_call 65;refine (zbh _ _ _ (by omega) (by omega) _).mono ?_;rintro e w' ⟨rfl,rfl⟩)
  go_ret2
  exact⟨rfl,rfl⟩
 ·rw [if_neg hr,if_neg hr]
  obtain⟨q,hq⟩:∃ q,(n+2 * p - k) / s=q:=⟨_,rfl⟩
  have hq1:0≤q:=hq ▸ Int.ediv_nonneg (by omega) (by omega)
  have hq2:q≤2000:=by
   rw [← hq]
   exact Int.le_trans (Int.ediv_le_self s (by omega)) (by omega)
  have hq3:(n+2 * p - k).tdiv s=q:=by rw [Int.tdiv_eq_ediv_of_nonneg (by omega)];exact hq
  rw [hq]
  go_enter Tryd.func87,Tryd.ntmps87
  go_wp2_with (go_at_call 65;refine (zbh _ _ _ (by omega) (by omega) _).mono ?_;rintro e w' ⟨rfl,rfl⟩)
  go_ret2
  exact⟨rfl,rfl⟩
theorem zbo (n k s p m e:Int) (hm:zah n k s p=m) (he:za4 n k s p=e) (w:World) :
  Calls Tryd.prog 87 #[.int .i64 n,.int .i64 k,.int .i64 s,.int .i64 p] w fun r w'=>r=.returned (.tuple #[.int .i64 m,.int .i64 e])∧w=w':=by
 unfold zah at hm
 unfold za4 at he
 cases h:argsB n k s p
 ·rw [if_neg (by simp [h])] at hm he
  subst hm he
  exact steps_arg n k s p h w
 ·rw [if_pos h] at hm he
  subst hm he
  exact steps_in n k s p h w
/-! ### places -/
/-! ### the shape that a window makes -/
def zau (H W C k s p o:Int):Int:=if zad H W C=false then 5 else if za4 H k s p≠0 then za4 H k s p else if za4 W k s p≠0 then za4 W k s p else if zad (zah H k s p) (zah W k s p) o then 0 else 5
def zav (H W C k s p o:Int):Array Value:=if zau H W C k s p o=0 then #[.int .i64 (zah H k s p),.int .i64 (zah W k s p),.int .i64 o] else #[.int .i64 0,.int .i64 0,.int .i64 0]
theorem slide_wrong (H W C k s p o:Int) (hs:zad H W C=false) (wd:World) :
  Calls Tryd.prog 74 #[.agg #[.int .i64 H,.int .i64 W,.int .i64 C],.int .i64 k,.int .i64 s,.int .i64 p,.int .i64 o] wd fun e w'=>e=.returned (.tuple #[.agg #[.int .i64 0,.int .i64 0,.int .i64 0],.int .i64 5])∧Below wd.heap.size wd w':=by
 have HS:=hid hs
 clear hs
 go_enter Tryd.func74,Tryd.ntmps74
 go_wp2_with (go_at_call 30;refine (zaj _ _ _ _ HS.out _).mono ?_;rintro e w1 ⟨rfl,hb⟩;obtain⟨hc,hf⟩:=Kit.bcell hb)
 have hs1:wd.heap.size+1 < w1.heap.size:=by have:=hb.size;simp at this;omega
 have hB:Below wd.heap.size wd w1:=(((Below.refl _ _).alloc (le_refl _) _).alloc (by simp) _).trans (hb.mono (by simp;omega))
 refine bodyPost_ret (Kit.zaa rfl _ _ (wd.heap.size+1) 0 [.int .i64 0,.int .i64 0,.int .i64 0] _ rfl (Kit.zai (by go_cell) (by go_cell) (by go_cell)) Tryd.underlying30 rfl (by kernel_rfl)) rfl ?_
 exact⟨rfl,by go_grown⟩
theorem slide_one (H W C k s p o m e1:Int) (hs:zad H W C=true) (hm:zah H k s p=m) (he:za4 H k s p=e1) (hn:e1≠0) (wd:World) :
  Calls Tryd.prog 74 #[.agg #[.int .i64 H,.int .i64 W,.int .i64 C],.int .i64 k,.int .i64 s,.int .i64 p,.int .i64 o] wd fun e w'=>e=.returned (.tuple #[.agg #[.int .i64 0,.int .i64 0,.int .i64 0],.int .i64 e1])∧Below wd.heap.size wd w':=by
 have HS:=hid hs
 have HM:=hid hm
 have HE:=hid he
 clear hs hm he
 go_enter Tryd.func74,Tryd.ntmps74
 go_wp2_with (first
  | (go_at_call 30;refine (zaj _ _ _ _ HS.out _).mono ?_;rintro e w1 ⟨rfl,hb⟩;obtain⟨hc,hf⟩:=Kit.bcell hb)
  | (go_at_call 87;refine (zbo _ _ _ _ m e1 HM.out HE.out _).mono ?_;rintro e w' ⟨rfl,rfl⟩))
 have hs1:wd.heap.size+1 < w1.heap.size:=by have:=hb.size;simp at this;omega
 have hB:Below wd.heap.size wd w1:=(((Below.refl _ _).alloc (le_refl _) _).alloc (by simp) _).trans (hb.mono (by simp;omega))
 refine bodyPost_ret (Kit.zaa rfl _ _ (wd.heap.size+1) 0 [.int .i64 0,.int .i64 0,.int .i64 0] _ rfl (Kit.zai (by go_cell) (by go_cell) (by go_cell)) Tryd.underlying30 rfl (by kernel_rfl)) rfl ?_
 exact⟨rfl,by go_grown⟩
theorem slide_two (H W C k s p o m m2 e2:Int) (hs:zad H W C=true) (hm:zah H k s p=m) (he:za4 H k s p=0) (hm2:zah W k s p=m2) (he2:za4 W k s p=e2) (hn:e2≠0) (wd:World) :
  Calls Tryd.prog 74 #[.agg #[.int .i64 H,.int .i64 W,.int .i64 C],.int .i64 k,.int .i64 s,.int .i64 p,.int .i64 o] wd fun e w'=>e=.returned (.tuple #[.agg #[.int .i64 0,.int .i64 0,.int .i64 0],.int .i64 e2])∧Below wd.heap.size wd w':=by
 have HS:=hid hs
 have HM:=hid hm
 have HE:=hid he
 have HM2:=hid hm2
 have HE2:=hid he2
 clear hs hm he hm2 he2
 go_enter Tryd.func74,Tryd.ntmps74
 go_wp2_with (first
  | (go_at_call 30;((with_reducible refine (zaj H W C true HS.out _).mono ?_);rintro e w1 ⟨rfl,hb⟩;obtain⟨hc,hf⟩:=Kit.bcell hb))
  | (go_at_call 87;((with_reducible refine (zbo H k s p m 0 HM.out HE.out _).mono ?_);rintro e w' ⟨rfl,rfl⟩))
  | (go_at_call 87;((with_reducible refine (zbo W k s p m2 e2 HM2.out HE2.out _).mono ?_);rintro e w' ⟨rfl,rfl⟩)))
 have hs1:wd.heap.size+1 < w1.heap.size:=by have:=hb.size;simp at this;omega
 have hB:Below wd.heap.size wd w1:=(((Below.refl _ _).alloc (le_refl _) _).alloc (by simp) _).trans (hb.mono (by simp;omega))
 refine bodyPost_ret (Kit.zaa rfl _ _ (wd.heap.size+1) 0 [.int .i64 0,.int .i64 0,.int .i64 0] _ rfl (Kit.zai (by go_cell) (by go_cell) (by go_cell)) Tryd.underlying30 rfl (by kernel_rfl)) rfl ?_
 exact⟨rfl,by go_grown⟩
theorem slide_bad (H W C k s p o m m2:Int) (hs:zad H W C=true) (hm:zah H k s p=m) (he:za4 H k s p=0) (hm2:zah W k s p=m2) (he2:za4 W k s p=0) (hr:zad m m2 o=false) (wd:World) :
  Calls Tryd.prog 74 #[.agg #[.int .i64 H,.int .i64 W,.int .i64 C],.int .i64 k,.int .i64 s,.int .i64 p,.int .i64 o] wd fun e w'=>e=.returned (.tuple #[.agg #[.int .i64 0,.int .i64 0,.int .i64 0],.int .i64 5])∧Below wd.heap.size wd w':=by
 have HS:=hid hs
 have HM:=hid hm
 have HE:=hid he
 have HM2:=hid hm2
 have HE2:=hid he2
 have HR:=hid hr
 clear hs hm he hm2 he2 hr
 go_enter Tryd.func74,Tryd.ntmps74
 go_wp2_with (first
  | (go_at_call 30;((with_reducible refine (zaj H W C true HS.out _).mono ?_);rintro e w1 ⟨rfl,hb⟩;obtain⟨hc,hf⟩:=Kit.bcell hb))
  | (go_at_call 87;((with_reducible refine (zbo H k s p m 0 HM.out HE.out _).mono ?_);rintro e w' ⟨rfl,rfl⟩))
  | (go_at_call 87;((with_reducible refine (zbo W k s p m2 0 HM2.out HE2.out _).mono ?_);rintro e w' ⟨rfl,rfl⟩))
  | (go_at_call 30;((with_reducible refine (zaj m m2 o false HR.out _).mono ?_);(rintro e w2 ⟨rfl,hb2⟩;have hs1:wd.heap.size+1 < w1.heap.size:=(by have:=hb.size;simp at this;omega);have d0:w2.cell? ⟨wd.heap.size+1,0,none⟩=some (.int .i64 0):=(hb2.cell (p:=⟨wd.heap.size+1,0,none⟩) (by simp;omega)).trans (by go_cell);have d1:w2.cell? ⟨wd.heap.size+1,1,none⟩=some (.int .i64 0):=(hb2.cell (p:=⟨wd.heap.size+1,1,none⟩) (by simp;omega)).trans (by go_cell);have d2:w2.cell? ⟨wd.heap.size+1,2,none⟩=some (.int .i64 0):=(hb2.cell (p:=⟨wd.heap.size+1,2,none⟩) (by simp;omega)).trans (by go_cell);have g0:w2.frozen? ⟨wd.heap.size+1,0,none⟩=false:=(hb2.frozen (p:=⟨wd.heap.size+1,0,none⟩) (by simp;omega)).trans (by go_cell);have g1:w2.frozen? ⟨wd.heap.size+1,1,none⟩=false:=(hb2.frozen (p:=⟨wd.heap.size+1,1,none⟩) (by simp;omega)).trans (by go_cell);have g2:w2.frozen? ⟨wd.heap.size+1,2,none⟩=false:=(hb2.frozen (p:=⟨wd.heap.size+1,2,none⟩) (by simp;omega)).trans (by go_cell);have c0:w2.cell? ⟨w1.heap.size,0,none⟩=some (.int .i64 m):=(hb2.cell (p:=⟨w1.heap.size,0,none⟩) (by simp)).trans (by go_cell);have c1:w2.cell? ⟨w1.heap.size,1,none⟩=some (.int .i64 m2):=(hb2.cell (p:=⟨w1.heap.size,1,none⟩) (by simp)).trans (by go_cell);have c2:w2.cell? ⟨w1.heap.size,2,none⟩=some (.int .i64 o):=(hb2.cell (p:=⟨w1.heap.size,2,none⟩) (by simp)).trans (by go_cell);clear hc hf))))
 have hs2:w1.heap.size < w2.heap.size:=by have:=hb2.size;simp at this;omega
 have hB:Below wd.heap.size wd w1:=(((Below.refl _ _).alloc (le_refl _) _).alloc (by simp) _).trans (hb.mono (by simp;omega))
 have hB2:Below wd.heap.size wd w2:=(by go_grown:Below wd.heap.size wd _).trans (hb2.mono (by simp;omega))
 refine bodyPost_ret (Kit.zaa rfl _ _ (wd.heap.size+1) 0 [.int .i64 0,.int .i64 0,.int .i64 0] _ rfl (Kit.zai (by go_cell) (by go_cell) (by go_cell)) Tryd.underlying30 rfl (by kernel_rfl)) rfl ?_
 exact⟨rfl,by go_grown⟩
theorem slide_good (H W C k s p o m m2:Int) (hs:zad H W C=true) (hm:zah H k s p=m) (he:za4 H k s p=0) (hm2:zah W k s p=m2) (he2:za4 W k s p=0) (hr:zad m m2 o=true) (wd:World) :
  Calls Tryd.prog 74 #[.agg #[.int .i64 H,.int .i64 W,.int .i64 C],.int .i64 k,.int .i64 s,.int .i64 p,.int .i64 o] wd fun e w'=>e=.returned (.tuple #[.agg #[.int .i64 m,.int .i64 m2,.int .i64 o],.int .i64 0])∧Below wd.heap.size wd w':=by
 have HS:=hid hs
 have HM:=hid hm
 have HE:=hid he
 have HM2:=hid hm2
 have HE2:=hid he2
 have HR:=hid hr
 clear hs hm he hm2 he2 hr
 go_enter Tryd.func74,Tryd.ntmps74
 go_wp2_with (first
  | (go_at_call 30;((with_reducible refine (zaj H W C true HS.out _).mono ?_);rintro e w1 ⟨rfl,hb⟩;obtain⟨hc,hf⟩:=Kit.bcell hb))
  | (go_at_call 87;((with_reducible refine (zbo H k s p m 0 HM.out HE.out _).mono ?_);rintro e w' ⟨rfl,rfl⟩))
  | (go_at_call 87;((with_reducible refine (zbo W k s p m2 0 HM2.out HE2.out _).mono ?_);rintro e w' ⟨rfl,rfl⟩))
  | (go_at_call 30;((with_reducible refine (zaj m m2 o true HR.out _).mono ?_);(rintro e w2 ⟨rfl,hb2⟩;have hs1:wd.heap.size+1 < w1.heap.size:=(by have:=hb.size;simp at this;omega);have d0:w2.cell? ⟨wd.heap.size+1,0,none⟩=some (.int .i64 0):=(hb2.cell (p:=⟨wd.heap.size+1,0,none⟩) (by simp;omega)).trans (by go_cell);have d1:w2.cell? ⟨wd.heap.size+1,1,none⟩=some (.int .i64 0):=(hb2.cell (p:=⟨wd.heap.size+1,1,none⟩) (by simp;omega)).trans (by go_cell);have d2:w2.cell? ⟨wd.heap.size+1,2,none⟩=some (.int .i64 0):=(hb2.cell (p:=⟨wd.heap.size+1,2,none⟩) (by simp;omega)).trans (by go_cell);have g0:w2.frozen? ⟨wd.heap.size+1,0,none⟩=false:=(hb2.frozen (p:=⟨wd.heap.size+1,0,none⟩) (by simp;omega)).trans (by go_cell);have g1:w2.frozen? ⟨wd.heap.size+1,1,none⟩=false:=(hb2.frozen (p:=⟨wd.heap.size+1,1,none⟩) (by simp;omega)).trans (by go_cell);have g2:w2.frozen? ⟨wd.heap.size+1,2,none⟩=false:=(hb2.frozen (p:=⟨wd.heap.size+1,2,none⟩) (by simp;omega)).trans (by go_cell);have c0:w2.cell? ⟨w1.heap.size,0,none⟩=some (.int .i64 m):=(hb2.cell (p:=⟨w1.heap.size,0,none⟩) (by simp)).trans (by go_cell);have c1:w2.cell? ⟨w1.heap.size,1,none⟩=some (.int .i64 m2):=(hb2.cell (p:=⟨w1.heap.size,1,none⟩) (by simp)).trans (by go_cell);have c2:w2.cell? ⟨w1.heap.size,2,none⟩=some (.int .i64 o):=(hb2.cell (p:=⟨w1.heap.size,2,none⟩) (by simp)).trans (by go_cell);clear hc hf))))
 have hs2:w1.heap.size < w2.heap.size:=by have:=hb2.size;simp at this;omega
 have hB:Below wd.heap.size wd w1:=(((Below.refl _ _).alloc (le_refl _) _).alloc (by simp) _).trans (hb.mono (by simp;omega))
 have hB2:Below wd.heap.size wd w2:=(by go_grown:Below wd.heap.size wd _).trans (hb2.mono (by simp;omega))
 refine bodyPost_ret (Kit.zaa rfl _ _ (wd.heap.size+1) 0 [.int .i64 m,.int .i64 m2,.int .i64 o] _ rfl (Kit.zai (by go_cell) (by go_cell) (by go_cell)) Tryd.underlying30 rfl (by kernel_rfl)) rfl ?_
 exact⟨rfl,by go_grown⟩
theorem za1 (H W C k s p o e:Int) (v:Array Value) (he:zau H W C k s p o=e) (hv:zav H W C k s p o=v) (wd:World) :
  Calls Tryd.prog 74 #[.agg #[.int .i64 H,.int .i64 W,.int .i64 C],.int .i64 k,.int .i64 s,.int .i64 p,.int .i64 o] wd fun r w'=>r=.returned (.tuple #[.agg v,.int .i64 e])∧Below wd.heap.size wd w':=by
 subst hv
 unfold zav
 rw [he]
 unfold zau at he
 cases hs:zad H W C
 ·rw [if_pos hs] at he
  subst he
  exact slide_wrong H W C k s p o hs wd
 ·rw [if_neg (by simp [hs])] at he
  by_cases h1:za4 H k s p=0
  ·rw [if_neg (by simp [h1])] at he
   by_cases h2:za4 W k s p=0
   ·rw [if_neg (by simp [h2])] at he
    cases hr:zad (zah H k s p) (zah W k s p) o
    ·rw [if_neg (by simp [hr])] at he
     subst he
     exact slide_bad H W C k s p o _ _ hs rfl h1 rfl h2 hr wd
    ·rw [if_pos hr] at he
     subst he
     exact slide_good H W C k s p o _ _ hs rfl h1 rfl h2 hr wd
   ·rw [if_pos h2] at he
    subst he
    rw [if_neg h2]
    exact slide_two H W C k s p o _ _ _ hs rfl h1 rfl rfl h2 wd
  ·rw [if_pos h1] at he
   subst he
   rw [if_neg h1]
   exact slide_one H W C k s p o _ _ hs rfl rfl h1 wd
end CShape
end
end Go.Proofs.YtoffcaldhojjoaaDoor
