/- -/
import Derived.Deep.OwnRows
import Derived.Test.YtchpdhhpkljdhaaGreatDoorGD4
open Go.Value renaming int→Jj
open Go.IntKind renaming i64→Jq
open Go.Lib (hid)
open Nat (le_refl lt_of_succ_lt lt_succ_self)
set_option linter.unusedVariables false
set_option linter.unusedSimpArgs false
set_option maxRecDepth 100000
set_option maxHeartbeats 16000000
namespace Go.Proofs.YtchpdhhpkljdhaaGreatDoor
namespace CSat
end CSat
open Go Go.ChangeShapes Go.WideShapes Go.ChangeAt Go.RowKit
section
namespace CShape
open Plain CSat
/-! ### windows -/
def argsB (n k s p:Int):Bool:=decide (1≤n∧n≤1024∧1≤k∧k≤5∧1≤s∧s≤4∧0≤p∧p≤4∧p < k)
def zad (n k s p:Int):Int:=if argsB n k s p then (if n+2 * p - k < 0 then 0 else (n+2 * p - k) / s+1) else 0
def zbm (n k s p:Int):Int:=if argsB n k s p then (if n+2 * p - k < 0 then 5 else 0) else 2
theorem za1 {n k s p:Int} (h:argsB n k s p=true):1≤n∧n≤1024∧1≤k∧k≤5∧1≤s∧s≤4∧0≤p∧p≤4∧p < k:=by simpa [argsB] using h
theorem argsB_no {n k s p:Int} (h:argsB n k s p=false):(n < 1∨1024 < n)∨(1≤n∧n≤1024∧(k < 1∨5 < k))∨(1≤n∧n≤1024∧1≤k∧k≤5∧(s < 1∨4 < s)) ∨
  (1≤n∧n≤1024∧1≤k∧k≤5∧1≤s∧s≤4∧(p < 0∨4 < p))∨(1≤n∧n≤1024∧1≤k∧k≤5∧1≤s∧s≤4∧0≤p∧p≤4∧k≤p):=by
 simp [argsB] at h;omega
theorem steps_arg (n k s p:Int) (h:argsB n k s p=false) (w:World) :
  Calls Tryz.prog 134 #[Jj Jq n,Jj Jq k,Jj Jq s,Jj Jq p] w fun e w'=>e=.returned (.tuple #[Jj Jq 0,Jj Jq 2])∧w=w':=by
 rcases argsB_no h with h1 | ⟨h1,h2,h3⟩ | ⟨h1,h2,h3,h4,h5⟩ | ⟨h1,h2,h3,h4,h5,h6,h7⟩ | ⟨h1,h2,h3,h4,h5,h6,h7,h8,h9⟩
 all_goals
  clear h
  go_enter Tryz.func134,Tryz.ntmps134
  go_wp2_with (first
   | (go_at_call 96;refine (zca _ _ _ Zb3 Zb3 _).mono ?_;rintro e w' ⟨rfl,rfl⟩)
   | (go_at_call 96;refine (within_no _ _ _ Zb3 _).mono ?_;rintro e w' ⟨rfl,rfl⟩))
  go_ret2
  exact⟨rfl,rfl⟩
theorem steps_in (n k s p:Int) (h:argsB n k s p=true) (w:World) :
  Calls Tryz.prog 134 #[Jj Jq n,Jj Jq k,Jj Jq s,Jj Jq p] w fun e w'=>e=.returned (.tuple #[Jj Jq (if n+2 * p - k < 0 then 0 else (n+2 * p - k) / s+1),Jj Jq (if n+2 * p - k < 0 then 5 else 0)])∧w=w':=by
 obtain⟨h1,h2,h3,h4,h5,h6,h7,h8,h9⟩:=za1 h
 clear h
 by_cases hr:n+2 * p - k < 0
 ·rw [if_pos hr,if_pos hr]
  exact Z28
 ·rw [if_neg hr,if_neg hr]
  obtain⟨q,hq⟩:∃ q,(n+2 * p - k) / s=q:=⟨_,rfl⟩
  have hq1:0≤q:=hq ▸ Int.ediv_nonneg Zb3 Zb3
  have hq2:q≤2000:=by
   rw [← hq]
   exact Int.le_trans (Int.ediv_le_self s Zb3) Zb3
  have hq3:(n+2 * p - k).tdiv s=q:=by rw [Int.tdiv_eq_ediv_of_nonneg Zb3];exact hq
  rw [hq]
  exact Z28
theorem zde (n k s p m e:Int) (hm:zad n k s p=m) (he:zbm n k s p=e) (w:World) :
  Calls Tryz.prog 134 #[Jj Jq n,Jj Jq k,Jj Jq s,Jj Jq p] w fun r w'=>r=.returned (.tuple #[Jj Jq m,Jj Jq e])∧w=w':=by
 unfold zad at hm
 unfold zbm at he
 cases h:argsB n k s p
 ·rw [if_neg (by simp [h])] at hm he
  subst hm he
  exact steps_arg n k s p h w
 ·rw [if_pos h] at hm he
  subst hm he
  exact steps_in n k s p h w
/-! ### places -/
/-! ### the shape that a window makes -/
def za7 (H W C k s p o:Int):Int:=if zam H W C=false then 5 else if zbm H k s p≠0 then zbm H k s p else if zbm W k s p≠0 then zbm W k s p else if zam (zad H k s p) (zad W k s p) o then 0 else 5
def za6 (H W C k s p o:Int):Array Value:=if za7 H W C k s p o=0 then #[Jj Jq (zad H k s p),Jj Jq (zad W k s p),Jj Jq o] else #[Jj Jq 0,Jj Jq 0,Jj Jq 0]
theorem slide_wrong (H W C k s p o:Int) (hs:zam H W C=false) (wd:World) :
  Calls Tryz.prog 98 #[.agg #[Jj Jq H,Jj Jq W,Jj Jq C],Jj Jq k,Jj Jq s,Jj Jq p,Jj Jq o] wd fun e w'=>e=.returned (.tuple #[.agg #[Jj Jq 0,Jj Jq 0,Jj Jq 0],Jj Jq 5])∧Below wd.heap.size wd w':=by
 have HS:=hid hs
 clear hs
 go_enter Tryz.func98,Tryz.ntmps98
 go_wp2_with (go_at_call 43;refine (zak _ _ _ _ HS.out _).mono ?_;rintro e w1 ⟨rfl,hb⟩;obtain⟨hc,hf⟩:=Kit.bcell hb)
 exact Zq
theorem slide_one (H W C k s p o m e1:Int) (hs:zam H W C=true) (hm:zad H k s p=m) (he:zbm H k s p=e1) (hn:e1≠0) (wd:World) :
  Calls Tryz.prog 98 #[.agg #[Jj Jq H,Jj Jq W,Jj Jq C],Jj Jq k,Jj Jq s,Jj Jq p,Jj Jq o] wd fun e w'=>e=.returned (.tuple #[.agg #[Jj Jq 0,Jj Jq 0,Jj Jq 0],Jj Jq e1])∧Below wd.heap.size wd w':=by
 have HS:=hid hs
 have HM:=hid hm
 have HE:=hid he
 clear hs hm he
 go_enter Tryz.func98,Tryz.ntmps98
 go_wp2_with (first
  | (go_at_call 43;refine (zak _ _ _ _ HS.out _).mono ?_;rintro e w1 ⟨rfl,hb⟩;obtain⟨hc,hf⟩:=Kit.bcell hb)
  | (go_at_call 134;refine (zde _ _ _ _ m e1 HM.out HE.out _).mono ?_;rintro e w' ⟨rfl,rfl⟩))
 exact Zq
theorem slide_two (H W C k s p o m m2 e2:Int) (hs:zam H W C=true) (hm:zad H k s p=m) (he:zbm H k s p=0) (hm2:zad W k s p=m2) (he2:zbm W k s p=e2) (hn:e2≠0) (wd:World) :
  Calls Tryz.prog 98 #[.agg #[Jj Jq H,Jj Jq W,Jj Jq C],Jj Jq k,Jj Jq s,Jj Jq p,Jj Jq o] wd fun e w'=>e=.returned (.tuple #[.agg #[Jj Jq 0,Jj Jq 0,Jj Jq 0],Jj Jq e2])∧Below wd.heap.size wd w':=by
 have HS:=hid hs
 have HM:=hid hm
 have HE:=hid he
 have HM2:=hid hm2
 have HE2:=hid he2
 clear hs hm he hm2 he2
 go_enter Tryz.func98,Tryz.ntmps98
 go_wp2_with (first
  | (go_at_call 43;((with_reducible refine (zak H W C true HS.out _).mono ?_);rintro e w1 ⟨rfl,hb⟩;obtain⟨hc,hf⟩:=Kit.bcell hb))
  | (go_at_call 134;((with_reducible refine (zde H k s p m 0 HM.out HE.out _).mono ?_);rintro e w' ⟨rfl,rfl⟩))
  | (go_at_call 134;((with_reducible refine (zde W k s p m2 e2 HM2.out HE2.out _).mono ?_);rintro e w' ⟨rfl,rfl⟩)))
 exact Zq
theorem slide_bad (H W C k s p o m m2:Int) (hs:zam H W C=true) (hm:zad H k s p=m) (he:zbm H k s p=0) (hm2:zad W k s p=m2) (he2:zbm W k s p=0) (hr:zam m m2 o=false) (wd:World) :
  Calls Tryz.prog 98 #[.agg #[Jj Jq H,Jj Jq W,Jj Jq C],Jj Jq k,Jj Jq s,Jj Jq p,Jj Jq o] wd fun e w'=>e=.returned (.tuple #[.agg #[Jj Jq 0,Jj Jq 0,Jj Jq 0],Jj Jq 5])∧Below wd.heap.size wd w':=by
 have HS:=hid hs
 have HM:=hid hm
 have HE:=hid he
 have HM2:=hid hm2
 have HE2:=hid he2
 have HR:=hid hr
 clear hs hm he hm2 he2 hr
 go_enter Tryz.func98,Tryz.ntmps98
 go_wp2_with (first
  | (go_at_call 43;((with_reducible refine (zak H W C true HS.out _).mono ?_);rintro e w1 ⟨rfl,hb⟩;obtain⟨hc,hf⟩:=Kit.bcell hb))
  | (go_at_call 134;((with_reducible refine (zde H k s p m 0 HM.out HE.out _).mono ?_);rintro e w' ⟨rfl,rfl⟩))
  | (go_at_call 134;((with_reducible refine (zde W k s p m2 0 HM2.out HE2.out _).mono ?_);rintro e w' ⟨rfl,rfl⟩))
  | (go_at_call 43;((with_reducible refine (zak m m2 o false HR.out _).mono ?_);(rintro e w2 ⟨rfl,hb2⟩;have hs1:wd.heap.size+1 < w1.heap.size:=Zbb;have d0:w2.cell? ⟨wd.heap.size+1,0,none⟩=some (Jj Jq 0):=(hb2.cell (p:=⟨wd.heap.size+1,0,none⟩) Zba).trans Zb6;have d1:w2.cell? ⟨wd.heap.size+1,1,none⟩=some (Jj Jq 0):=(hb2.cell (p:=⟨wd.heap.size+1,1,none⟩) Zba).trans Zb6;have d2:w2.cell? ⟨wd.heap.size+1,2,none⟩=some (Jj Jq 0):=(hb2.cell (p:=⟨wd.heap.size+1,2,none⟩) Zba).trans Zb6;have g0:w2.frozen? ⟨wd.heap.size+1,0,none⟩=false:=(hb2.frozen (p:=⟨wd.heap.size+1,0,none⟩) Zba).trans Zb6;have g1:w2.frozen? ⟨wd.heap.size+1,1,none⟩=false:=(hb2.frozen (p:=⟨wd.heap.size+1,1,none⟩) Zba).trans Zb6;have g2:w2.frozen? ⟨wd.heap.size+1,2,none⟩=false:=(hb2.frozen (p:=⟨wd.heap.size+1,2,none⟩) Zba).trans Zb6;have c0:w2.cell? ⟨w1.heap.size,0,none⟩=some (Jj Jq m):=(hb2.cell (p:=⟨w1.heap.size,0,none⟩) Zb7).trans Zb6;have c1:w2.cell? ⟨w1.heap.size,1,none⟩=some (Jj Jq m2):=(hb2.cell (p:=⟨w1.heap.size,1,none⟩) Zb7).trans Zb6;have c2:w2.cell? ⟨w1.heap.size,2,none⟩=some (Jj Jq o):=(hb2.cell (p:=⟨w1.heap.size,2,none⟩) Zb7).trans Zb6;clear hc hf))))
 exact Z47
theorem slide_good (H W C k s p o m m2:Int) (hs:zam H W C=true) (hm:zad H k s p=m) (he:zbm H k s p=0) (hm2:zad W k s p=m2) (he2:zbm W k s p=0) (hr:zam m m2 o=true) (wd:World) :
  Calls Tryz.prog 98 #[.agg #[Jj Jq H,Jj Jq W,Jj Jq C],Jj Jq k,Jj Jq s,Jj Jq p,Jj Jq o] wd fun e w'=>e=.returned (.tuple #[.agg #[Jj Jq m,Jj Jq m2,Jj Jq o],Jj Jq 0])∧Below wd.heap.size wd w':=by
 have HS:=hid hs
 have HM:=hid hm
 have HE:=hid he
 have HM2:=hid hm2
 have HE2:=hid he2
 have HR:=hid hr
 clear hs hm he hm2 he2 hr
 go_enter Tryz.func98,Tryz.ntmps98
 go_wp2_with (first
  | (go_at_call 43;((with_reducible refine (zak H W C true HS.out _).mono ?_);rintro e w1 ⟨rfl,hb⟩;obtain⟨hc,hf⟩:=Kit.bcell hb))
  | (go_at_call 134;((with_reducible refine (zde H k s p m 0 HM.out HE.out _).mono ?_);rintro e w' ⟨rfl,rfl⟩))
  | (go_at_call 134;((with_reducible refine (zde W k s p m2 0 HM2.out HE2.out _).mono ?_);rintro e w' ⟨rfl,rfl⟩))
  | (go_at_call 43;((with_reducible refine (zak m m2 o true HR.out _).mono ?_);(rintro e w2 ⟨rfl,hb2⟩;have hs1:wd.heap.size+1 < w1.heap.size:=Zbb;have d0:w2.cell? ⟨wd.heap.size+1,0,none⟩=some (Jj Jq 0):=(hb2.cell (p:=⟨wd.heap.size+1,0,none⟩) Zba).trans Zb6;have d1:w2.cell? ⟨wd.heap.size+1,1,none⟩=some (Jj Jq 0):=(hb2.cell (p:=⟨wd.heap.size+1,1,none⟩) Zba).trans Zb6;have d2:w2.cell? ⟨wd.heap.size+1,2,none⟩=some (Jj Jq 0):=(hb2.cell (p:=⟨wd.heap.size+1,2,none⟩) Zba).trans Zb6;have g0:w2.frozen? ⟨wd.heap.size+1,0,none⟩=false:=(hb2.frozen (p:=⟨wd.heap.size+1,0,none⟩) Zba).trans Zb6;have g1:w2.frozen? ⟨wd.heap.size+1,1,none⟩=false:=(hb2.frozen (p:=⟨wd.heap.size+1,1,none⟩) Zba).trans Zb6;have g2:w2.frozen? ⟨wd.heap.size+1,2,none⟩=false:=(hb2.frozen (p:=⟨wd.heap.size+1,2,none⟩) Zba).trans Zb6;have c0:w2.cell? ⟨w1.heap.size,0,none⟩=some (Jj Jq m):=(hb2.cell (p:=⟨w1.heap.size,0,none⟩) Zb7).trans Zb6;have c1:w2.cell? ⟨w1.heap.size,1,none⟩=some (Jj Jq m2):=(hb2.cell (p:=⟨w1.heap.size,1,none⟩) Zb7).trans Zb6;have c2:w2.cell? ⟨w1.heap.size,2,none⟩=some (Jj Jq o):=(hb2.cell (p:=⟨w1.heap.size,2,none⟩) Zb7).trans Zb6;clear hc hf))))
 exact Z1h
theorem zb1 (H W C k s p o e:Int) (v:Array Value) (he:za7 H W C k s p o=e) (hv:za6 H W C k s p o=v) (wd:World) :
  Calls Tryz.prog 98 #[.agg #[Jj Jq H,Jj Jq W,Jj Jq C],Jj Jq k,Jj Jq s,Jj Jq p,Jj Jq o] wd fun r w'=>r=.returned (.tuple #[.agg v,Jj Jq e])∧Below wd.heap.size wd w':=by
 subst hv
 unfold za6
 rw [he]
 unfold za7 at he
 cases hs:zam H W C
 ·rw [if_pos hs] at he
  subst he
  exact slide_wrong H W C k s p o hs wd
 ·rw [if_neg (by simp [hs])] at he
  by_cases h1:zbm H k s p=0
  ·rw [if_neg (by simp [h1])] at he
   by_cases h2:zbm W k s p=0
   ·rw [if_neg (by simp [h2])] at he
    cases hr:zam (zad H k s p) (zad W k s p) o
    ·rw [if_neg (by simp [hr])] at he
     subst he
     exact slide_bad H W C k s p o _ _ hs rfl h1 rfl h2 hr wd
    ·rw [if_pos hr] at he
     subst he
     exact slide_good H W C k s p o _ _ hs rfl h1 rfl h2 hr wd
   ·rw [if_pos h2] at he
    subst he
    rw [if_neg h2]
    exact slide_two H W C k s p o _ _ _ hs rfl h1 rfl rfl h2 wd
  ·rw [if_pos h1] at he
   subst he
   rw [if_neg h1]
   exact slide_one H W C k s p o _ _ hs rfl rfl h1 wd
end CShape
end
section
namespace CTensor
open Plain CSat CShape
def zbs (B:Nat) (wd:World):Prop :=
 (wd.cell? ⟨B,0,none⟩=some (Jj Jq 0)∧wd.cell? ⟨B,1,none⟩=some (Jj Jq 0)∧wd.cell? ⟨B,2,none⟩=some (Jj Jq 0)∧wd.cell? ⟨B,3,none⟩=some (.slice none 0 0)) ∧
 wd.frozen? ⟨B,0,none⟩=false∧wd.frozen? ⟨B,1,none⟩=false∧wd.frozen? ⟨B,2,none⟩=false∧wd.frozen? ⟨B,3,none⟩=false
theorem zbs.new (T:TypeId) (w:World) (B:Nat) (hB:B=w.heap.size):zbs B (w.alloc (.cells #[Jj Jq 0,Jj Jq 0,Jj Jq 0,.slice none 0 0] T)):=by
 subst hB
 exact⟨⟨Kit.zan _ _ _ _,Kit.zan _ _ _ _,Kit.zan _ _ _ _,Kit.zan _ _ _ _⟩,World.frozen?_alloc_at _ _ _ _ rfl,World.frozen?_alloc_at _ _ _ _ rfl,World.frozen?_alloc_at _ _ _ _ rfl,World.frozen?_alloc_at _ _ _ _ rfl⟩
theorem zbs.below {B B':Nat} {w w':World} (h:zbs B w) (hB:B < B') (hb:Below B' w w'):zbs B w':=by
 obtain⟨⟨h1,h2,h3,h4⟩,h5,h6,h7,h8⟩:=h
 exact⟨⟨(hb.cell (p:=⟨B,0,none⟩) hB).trans h1,(hb.cell (p:=⟨B,1,none⟩) hB).trans h2,(hb.cell (p:=⟨B,2,none⟩) hB).trans h3,(hb.cell (p:=⟨B,3,none⟩) hB).trans h4⟩,
  (hb.frozen (p:=⟨B,0,none⟩) hB).trans h5,(hb.frozen (p:=⟨B,1,none⟩) hB).trans h6,(hb.frozen (p:=⟨B,2,none⟩) hB).trans h7,(hb.frozen (p:=⟨B,3,none⟩) hB).trans h8⟩
theorem zao {w:World} {b:Nat} {x y z u:Value} (h0:w.cell? ⟨b,0,none⟩=some x) (h1:w.cell? ⟨b,1,none⟩=some y) (h2:w.cell? ⟨b,2,none⟩=some z) (h3:w.cell? ⟨b,3,none⟩=some u):w.rangeAt b 0 [x,y,z,u]:=by
 exact Z2b
theorem BoxAt.stores {B B2:Nat} {H W C:Int} {A:Option Addr} {n c:Nat} {w:World} (h:BoxAt B H W C A n c w) (hne:B≠B2) (a b d e:Value) :
  BoxAt B H W C A n c ((((w.setCell ⟨B2,0,none⟩ a).setCell ⟨B2,1,none⟩ b).setCell ⟨B2,2,none⟩ d).setCell ⟨B2,3,none⟩ e):=by
 refine Zab ?_;intro k
 unfold BoxAt
 simp only [k]
 exact h
theorem zat {w:World} {base:Nat} {e:TypeId} {size n:Nat} {v:Value} {xs:List Value} (h:w.ownsRow base e size v n xs) (a:Addr) (u:Value) (ha:a.block < base):(w.setCell a u).ownsRow base e size v n xs:=by
 refine h.kept (row:=some a.block) ⟨rfl,rfl,rfl,by simp,fun k _ hk=>Below.heap_setCell _ _ _ k (fun e=>hk (by rw [e]))⟩ ?_
 cases hv:v.ownBlock with
 | none=>exact .inl rfl
 | some q=>exact .inr (fun e=>by have:=Kit.zaq h q hv;cases e;omega)
def Cloned (w:World) (H W C:Int) (n:Nat) (zs:List Int) (e:Ending) (w':World):Prop :=
 ∃ v,e=.returned (.agg #[Jj Jq H,Jj Jq W,Jj Jq C,v])∧w'.ownsRow w.heap.size 22 1 v n (I8s zs)∧Below w.heap.size w w'
theorem clone_to (H W C:Int) (A:Option Addr) (zs:List Int) (n c:Nat) (hn:zs.length=n) (hl:n≤1000000) {B:Nat} (w:World) (hB:B≤w.heap.size) (hr:Kit.Rd w B A (zs.map (.int .i8))) :
  Calls Tryz.prog 107 #[.agg #[Jj Jq H,Jj Jq W,Jj Jq C,.slice A n c]] w (Cloned w H W C n zs):=by
 have HN:=hid hn
 have HR:=hid hr
 clear hn hr
 go_enter Tryz.func107,Tryz.ntmps107
 go_wp2_with fail
 refine Z8f ?_;intro hbox HFR
 refine wp_region_held_drew (S:=BoxAt w.heap.size H W C A n c) Zb5 hbox (fun hHeld=>?_)
 refine Tk.y 0 (v:=?_) rfl ?_ ?_
 rotate_left
 ·exact Z3d
 refine Z5y ?_
 refine Tk.y 1 (v:=?_) rfl ?_ ?_
 rotate_left
 ·exact Z3d
 refine Z5y ?_
 refine Tk.y 2 (v:=?_) rfl ?_ ?_
 rotate_left
 ·exact Z3d
 refine Z5y ?_
 refine Tk.y 3 (v:=?_) rfl ?_ ?_
 rotate_left
 ·exact Z3d
 refine Z5y ?_
 refine Tk.s 4 rfl (fun K hK=>?_)
 go_simp
 go_at_call 140
 refine (sclone A zs n c HN.out hl (B:=B) _ Zba (((HR.out.alloc hB _).alloc Zba _).drew)).mono ?_
 rintro e w1 ⟨v1,rfl,ho1,hb1⟩
 have hS1:=hHeld.below Zb9 hb1
 obtain⟨⟨z0,z1,z2,z3⟩,z4,z5,z6,z7⟩:=HFR.out.below Zb9 hb1
 obtain⟨A1,c1,rfl,_,_,_⟩:=Kit.zaj ho1
 have HO:=hid ho1
 have HB1:=hid hb1
 clear ho1 hb1 hHeld
 dsimp only
 refine hK.out _ _ ?_ (fun hHeld=>?_)
 ·exact hS1
 clear hK K
 refine Z5y ?_
 refine Za1 ?_
 refine Z5y ?_
 refine Tk.s 6 rfl (fun K hK=>?_)
 go_simp
 refine hK.out _ _ ?_ (fun hHeld=>?_)
 ·exact Z2c
 clear hK K
 refine Z5y ?_
 refine Z6y ?_
 go_wp2_with fail
 refine bodyPost_ret (Kit.zbi rfl _ _ (w.heap.size+1) 0 [Jj Jq H,Jj Jq W,Jj Jq C,.slice A1 n c1] _ rfl (zao Zb6 Zb6 Zb6 Zb6) Tryz.underlying32 rfl Zb5) rfl ?_
 have hz:w.heap.size+2≤w1.heap.size:=by have:=HB1.out.size;simp at this;omega
 refine⟨_,rfl,Kit.zah (zat (zat (zat (zat HO.out _ _ ?_) _ _ ?_) _ _ ?_) _ _ ?_) ?_,?_⟩
 any_goals (first | (simp;done) | (simp;omega))
 exact (((((((Below.refl w.heap.size w).alloc (le_refl _) _).alloc Zb7 _).drew).trans (HB1.out.mono Zba)).setCell (p:=⟨w.heap.size+1,0,none⟩) Zb7 _).setCell (p:=⟨w.heap.size+1,1,none⟩) Zb7 _ |>.setCell (p:=⟨w.heap.size+1,2,none⟩) Zb7 _).setCell (p:=⟨w.heap.size+1,3,none⟩) Zb7 _
theorem mul_one_n (n:Nat) (hn:n < 18446744073709551616) (w:World) :
  Calls Tryz.prog 149 #[.int .u64 1,.int .u64 (n:Int)] w fun e w'=>e=.returned (.tuple #[.int .u64 0,.int .u64 (n:Int)])∧w=w':=by
 have h:=Tryz.bits_Mul 1 n Zb3 hn w
 rw [Nat.one_mul,Nat.div_eq_of_lt hn,Nat.mod_eq_of_lt hn] at h
 exact h.mono fun e w' ⟨he,hw⟩=>⟨he,hw.symm⟩
def partly (x:Int) (n q:Nat):List Value:=List.replicate q (.int .i8 x) ++ List.replicate (n - q) (.int .i8 0)
theorem partly_len (x:Int) {n q:Nat} (h:q≤n):(partly x n q).length=n:=by simp [partly];omega
theorem partly_splice (x:Int) {n q m:Nat} (h:q+m≤n):splice (partly x n q) q (List.replicate m (.int .i8 x))=partly x n (q+m):=by
 unfold splice partly
 rw [List.take_left' Zb7,List.length_replicate,List.drop_append,List.length_replicate,List.drop_eq_nil_of_le Zb7,List.nil_append,List.drop_replicate, ← List.append_assoc,List.replicate_append_replicate]
 congr 2;omega
theorem partly_at (x:Int) {n q j:Nat} (h:j < q):(partly x n q)[j]?=some (.int .i8 x):=by
 unfold partly
 rw [List.getElem?_append_left (by simpa using h),List.getElem?_replicate,if_pos h]
theorem rd_one {w:World} {B:Nat} {A:Option Addr} {x:Value} (h:Kit.Rd w B A [x]):∃ ad,A=some ad∧∀ j v,[x][j]?=some v→w.cell? (ad.add j)=some v:=by
 obtain⟨ad,rfl,_,_⟩:=h 0 x rfl
 refine⟨ad,rfl,fun j v hv=>?_⟩
 obtain⟨ad2,e,_,hc⟩:=h j v hv
 cases e;exact hc
theorem made_partly (w:World) (x:Int) (n:Nat):(w.alloc (.cells (madeCells #[Value.int .i8 0] n) 22)).heap[w.heap.size]?=some (.cells (partly x n 0).toArray 22 (0,0)):=by
 rw [heap_alloc_new]
 refine congrArg (fun a=>some (Obj.cells a 22 (0,0))) ?_
 apply Array.ext'
 rw [toList_madeCells_one]
 simp [partly]
theorem part_src {w:World} {g:Nat} {x:Int} {n q m:Nat} {T:TypeId} (h:w.heap[g]?=some (.cells (partly x n q).toArray T (0,0))) (hm:m≤q) :
  ∀ j v,(List.replicate m (Value.int .i8 x))[j]?=some v→w.cell? ((⟨g,0,none⟩:Addr).add j)=some v:=by
 intro j v hv
 have e:(⟨g,0,none⟩:Addr).add j=⟨g,j,none⟩:=by
  exact Z2g
 rw [List.getElem?_replicate] at hv
 split at hv
 ·rename_i hj
  cases hv
  rw [e]
  unfold World.cell?
  rw [h]
  have:=partly_at x (n:=n) (q:=q) (j:=j) Zb3
  simpa using this
 ·cases hv
theorem repeat_to (A:Option Addr) (x:Int) (c n:Nat) (h1:1≤n) (hl:n≤1000000) {B:Nat} (w:World) (hB:B≤w.heap.size) (hr:Kit.Rd w B A (I8s [x])) :
  Calls Tryz.prog 138 #[.slice A 1 c,Jj Jq (n:Int)] w (Owned w n (I8s (List.replicate n x))):=by
 have HR:=hid hr
 have hnI:(n:Int)≤1000000:=by omega
 have hnJ:(1:Int)≤(n:Int):=by omega
 have hbig:decide (9223372036854775807 < (n:Int))=false:=by simp;omega
 clear hr
 have hmk:=run_make_row' (P:=Tryz.prog) 23 22 (.int .i8 0) 1 Tryz.underlying23 info_i8 rfl .i64 .i64 n Zb3 Zb3
 have hsz:(Tryz.prog.info? 22).map (·.size)=some 1:=by kernel_rfl
 have HSZ:=hid hsz
 clear hsz
 go_enter Tryz.func138,Tryz.ntmps138
 go_wp2_with (first
  | (go_at_call 149;(refine (mul_one_n n Zb3 _).mono ?_);rintro e w' ⟨rfl,rfl⟩)
  | (refine wpList_copy_splice rfl (.tmp 31) (.tmp 32) _ _ rfl 22 Tryz.underlying23 HSZ.out (some ⟨w.heap.size,0,none⟩) A n n 1 c rfl rfl w.heap.size 0 (partly x n 0) 22 (made_partly w x n) [.int .i8 x] (by show 1=min 1 n;omega) (fun _=>⟨rfl,rd_one ((HR.out.alloc hB _))⟩) (by rw [partly_len x (Nat.zero_le _)];simpa using h1) (Kit.za5 .i8 [x]) w.heap.size w ((Below.refl _ _).alloc (le_refl _) _) (le_refl _) ?_
     intro w2 HG hb2
     have HB:=hid hb2
     have hsp:=partly_splice x (n:=n) (q:=0) (m:=1) Zb3
     have HG1:Hid (w2.heap[w.heap.size]?=some (.cells (partly x n 1).toArray 22 (0,0))):=by
      have:=HG.out
      rw [show [Value.int .i8 x]=List.replicate 1 (Value.int .i8 x) from rfl,hsp] at this
      exact hid this
     clear hb2 HG hsp))
 go_loopw [8] (fun i wr=>∃ q:Nat,1≤q∧q≤n∧i=Jj Jq q∧Hid (wr.heap[w.heap.size]?=some (.cells (partly x n q).toArray 22 (0,0)))∧Hid (Below w.heap.size w wr)) (fun i _=>n - (intOf i).toNat)
 case atStart=>exact⟨1,le_refl _,h1,rfl,HG1,HB⟩
 case round =>
  obtain⟨q,hq1,hq,rfl,hG,hBw⟩:=hrel
  clear HG1 HB
  by_cases hlt:q < n
  ·have hqI:(q:Int) < (n:Int):=by omega
   have hqJ:(1:Int)≤(q:Int):=by omega
   have hne:¬ n=q:=by omega
   obtain⟨m,hm⟩:∃ m,min q (n - q)=m:=⟨_,rfl⟩
   have hm1:1≤m:=by omega
   have hmq:m≤q:=by omega
   have hmn:q+m≤n:=by omega
   have HM:=hid hm
   clear hm
   go_wp2_with fail
   refine wp_region_held_drew (S:=fun w'=>True) Zb5 trivial (fun hHeld=>?_)
   refine Z8l ?_
   refine Z5y ?_
   refine Tk.x 1 rfl ?_
   refine Z5y ?_
   refine Z8w ?_
   refine Z5y ?_
   refine Z94 ?_
   refine Z5y ?_
   refine Z9b ?_
   refine Z5y ?_
   refine Za1 ?_
   refine Z5y ?_
   refine Z9e ?_
   refine Z5y ?_
   refine Tk.s 7 rfl (fun K hK=>?_)
   refine step_copy_splice rfl (.tmp 41) (.tmp 44) _ _ rfl 22 Tryz.underlying23 HSZ.out (some ⟨w.heap.size,q,none⟩) (some ⟨w.heap.size,0,none⟩) (n - q) (n - q) q n rfl rfl w.heap.size q (partly x n q) 22 hG.out (List.replicate m (.int .i8 x)) (by simpa [Nat.min_def] using HM.out.symm) (fun _=>⟨rfl,⟨_,rfl,part_src hG.out hmq⟩⟩) (by rw [partly_len x hq,List.length_replicate];exact hmn) (by intro v hv;rw [List.eq_of_mem_replicate hv];rfl) w.heap.size w hBw.out.drew (le_refl _) ?_
   intro w3 HG3 hb3
   have HB3:=hid hb3
   have HG4:Hid (w3.heap[w.heap.size]?=some (.cells (partly x n (q+m)).toArray 22 (0,0))):=by
    have:=HG3.out
    rw [partly_splice x hmn] at this
    exact hid this
   have hsum:goInt (List.replicate m (Value.int .i8 x)).length=Jj Jq (m:Int):=by simp [goInt]
   rw [hsum]
   clear hb3 HG3 hsum
   have hwr:IntKind.i64.wrap ((q:Int)+(m:Int))=(q:Int)+(m:Int):=IntWalk.i64_in _ Zb3
   dsimp only
   refine hK.out _ _ ?_ (fun hHeld=>?_)
   ·exact trivial
   clear hK K
   refine Z5y ?_
   refine Z9f ?_
   refine Z5y ?_
   refine Zan ?_
   refine Z5y ?_
   refine Z6y ?_
   clear hwr
   go_wp2_with fail
   go_roundw
   case rel=>exact⟨q+m,by omega,by omega,by go_num,HG4,HB3⟩
   case measure=>simp [intOf];omega
  ·obtain rfl:q=n:=by omega
   go_wp2_with fail
   go_ret
   refine⟨_,rfl,⟨by simp [I8s],.inr ⟨w.heap.size,q,(partly x q q).toArray,rfl,le_refl _,hG.out,le_refl _,by unfold maxLen;omega,by simp [partly],by simp [partly,I8s]⟩⟩,hBw.out⟩
end CTensor
end
end Go.Proofs.YtchpdhhpkljdhaaGreatDoor
