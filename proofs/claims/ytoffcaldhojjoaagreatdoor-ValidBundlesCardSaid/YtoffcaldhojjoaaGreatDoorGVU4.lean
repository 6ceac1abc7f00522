/- -/
import Derived.Lib.SmallJoins
import Derived.Lib.SliceRun
import Derived.Test.YtoffcaldhojjoaaGreatDoorGVU3
open Go.Lib (hid)
open Nat (le_refl lt_of_succ_lt lt_succ_self)
set_option linter.unusedVariables false
set_option linter.unusedSimpArgs false
set_option maxRecDepth 100000
set_option maxHeartbeats 16000000
namespace Go.Proofs.YtoffcaldhojjoaaGreatDoor
namespace CSat
end CSat
open Go Go.ChangeShapes Go.WideShapes Go.ChangeAt Go.RowKit Go.Deep
section
namespace Kit
section
variable {H:Type} {enc:TypeId × Value→H} {P:Program} {w:World} {base b0:Nat} {spare:Nat→Bool} {held:Bool} {r:Reach}
theorem trod_islice_n {d e:TypeId} {k:IntKind} {c3:Value} {n:Nat} {x:DataW H × List MemPlace} (hd:P.underlying d=some (.slice e)) (he:P.underlying e=some (.int k)) (hce:P.cellsOf e=1) (h1:DataW.trod enc P w base spare held n d [c3]=some x) :
  ∃ (A:Option Addr) (zs:List Int) (c:Nat),c3=.slice A zs.length c∧zs.length≤c∧c≤maxLen∧(∀ n∈zs,(Lit.int k n).wf=true)∧Rd w w.heap.size A (zs.map (.int k)):=by
 obtain⟨a3,len,cap,e3⟩:=Go.Joins.slice_form hd h1
 simp at e3
 subst e3
 rcases open_ints hd he hce h1 with ⟨hcs,_⟩ | ⟨a,len',cap',zs,hcs,_,hl,hm,hz,_,hcell,hwz⟩
 ·simp at hcs
  obtain⟨rfl,rfl,rfl⟩:=hcs
  exact⟨none,[],0,rfl,by simp,by simp,by simp,Rd.nil⟩
 ·simp at hcs
  obtain⟨rfl,rfl,rfl⟩:=hcs
  have hlz:len≤zs.length:=by rw [hz];split <;> omega
  refine⟨some a,zs.take len,cap,?_,?_,hm,fun n hn=>hwz n (List.mem_of_mem_take hn),fun j u hu=>?_⟩
  ·rw [List.length_take,Nat.min_eq_left hlz]
  ·rw [List.length_take,Nat.min_eq_left hlz];exact hl
  ·rw [List.getElem?_map,List.getElem?_take] at hu
   split at hu
   ·rename_i hj
    have hjz:j < zs.length:=by omega
    rw [List.getElem?_eq_getElem hjz] at hu
    simp only [Option.map_some,Option.some.injEq] at hu
    subst hu
    have h9:=hcell j hjz
    rw [List.getD_eq_getElem?_getD,List.getElem?_eq_getElem hjz,Option.getD_some] at h9
    exact⟨a,rfl,by have:=block_lt h9;rwa [add_block] at this,h9⟩
   ·simp at hu
end
end Kit
end
section
namespace CShape
open Go Go.ChangeShapes Go.WideShapes Go.ChangeAt Go.RowKit
open Plain CSat
theorem refElems_yes (h w c n:Int) (h1:1≤h) (h2:h≤16) (h3:1≤w) (h4:w≤16) (h5:1≤c) (h6:c≤1024) (hn:h * w * c=n) (hn1:n≤1024) (W:World) :
  Calls Tryz.prog 13 #[.agg #[.int .i64 h,.int .i64 w,.int .i64 c]] W fun e w'=>e=.returned (.int .i64 n)∧Below W.heap.size W w':=by
 have hb:=zbs h1 h2 h3 h4 h5 h6
 obtain⟨b1,b2⟩:=hb
 have a1:1≤h * w:=Int.mul_le_mul h1 h3 (by omega) (by omega)
 have a2:h * w≤256:=Int.mul_le_mul h2 h4 (by omega) (by omega)
 subst hn
 go_enter Tryz.func13,Tryz.ntmps13
 go_wp2
 go_ret
 exact⟨rfl,(Below.refl _ _).alloc (le_refl _) _⟩
theorem refElems_many (h w c n:Int) (h1:1≤h) (h2:h≤16) (h3:1≤w) (h4:w≤16) (h5:1≤c) (h6:c≤1024) (hn:h * w * c=n) (hn1:1024 < n) (W:World) :
  Calls Tryz.prog 13 #[.agg #[.int .i64 h,.int .i64 w,.int .i64 c]] W fun e w'=>e=.returned (.int .i64 0)∧Below W.heap.size W w':=by
 have hb:=zbs h1 h2 h3 h4 h5 h6
 obtain⟨b1,b2⟩:=hb
 have a1:1≤h * w:=Int.mul_le_mul h1 h3 (by omega) (by omega)
 have a2:h * w≤256:=Int.mul_le_mul h2 h4 (by omega) (by omega)
 subst hn
 go_enter Tryz.func13,Tryz.ntmps13
 go_wp2
 go_ret
 exact⟨rfl,(Below.refl _ _).alloc (le_refl _) _⟩
theorem refElems_out (h w c:Int) (hw:h < 1∨(1≤h∧16 < h)∨(1≤h∧h≤16∧w < 1)∨(1≤h∧h≤16∧1≤w∧16 < w)∨(1≤h∧h≤16∧1≤w∧w≤16∧c < 1)∨(1≤h∧h≤16∧1≤w∧w≤16∧1≤c∧1024 < c)) (W:World) :
  Calls Tryz.prog 13 #[.agg #[.int .i64 h,.int .i64 w,.int .i64 c]] W fun e w'=>e=.returned (.int .i64 0)∧Below W.heap.size W w':=by
 rcases hw with h1 | ⟨h1,h2⟩ | ⟨h1,h2,h3⟩ | ⟨h1,h2,h3,h4⟩ | ⟨h1,h2,h3,h4,h5⟩ | ⟨h1,h2,h3,h4,h5,h6⟩
 all_goals
  go_enter Tryz.func13,Tryz.ntmps13
  go_wp2
  go_ret
  exact⟨rfl,(Below.refl _ _).alloc (le_refl _) _⟩
theorem zaf (h w c n:Int) (hn:zam h w c=n) (W:World) :
  Calls Tryz.prog 13 #[.agg #[.int .i64 h,.int .i64 w,.int .i64 c]] W fun e w'=>e=.returned (.int .i64 n)∧Below W.heap.size W w':=by
 cases hs:zae h w c
 ·rw [zbe hs] at hn
  subst hn
  by_cases hi:1≤h∧h≤16∧1≤w∧w≤16∧1≤c∧c≤1024
  ·obtain⟨a1,a2,a3,a4,a5,a6⟩:=hi
   exact refElems_many h w c _ a1 a2 a3 a4 a5 a6 rfl (by simp [zae] at hs;omega) W
  ·exact refElems_out h w c (by omega) W
 ·obtain⟨a1,a2,a3,a4,a5,a6,a7⟩:=zah hs
  rw [zas hs] at hn
  exact refElems_yes h w c n a1 a2 a3 a4 a5 a6 hn (hn ▸ a7) W
theorem zca {h w c:Int} (hs:zae h w c=true):∃ n,zam h w c=n∧1≤n∧n≤1024:=by
 refine⟨_,rfl,?_,(elemsZ_bd h w c).2⟩
 have:=elemsZ_pos h w c
 rw [hs] at this
 simp at this;omega
theorem refSteps_arg (n k s p:Int) (h:argsB n k s p=false) (w:World) :
  Calls Tryz.prog 54 #[.int .i64 n,.int .i64 k,.int .i64 s,.int .i64 p] w fun e w'=>e=.returned (.tuple #[.int .i64 0,.int .i64 2])∧w=w':=by
 have h0:n < 1∨(1≤n∧1024 < n)∨(1≤n∧n≤1024∧k < 1)∨(1≤n∧n≤1024∧1≤k∧5 < k)∨(1≤n∧n≤1024∧1≤k∧k≤5∧s < 1)∨(1≤n∧n≤1024∧1≤k∧k≤5∧1≤s∧4 < s) ∨
  (1≤n∧n≤1024∧1≤k∧k≤5∧1≤s∧s≤4∧p < 0)∨(1≤n∧n≤1024∧1≤k∧k≤5∧1≤s∧s≤4∧0≤p∧4 < p)∨(1≤n∧n≤1024∧1≤k∧k≤5∧1≤s∧s≤4∧0≤p∧p≤4∧k≤p):=by
  have:=argsB_no h;omega
 clear h
 rcases h0 with h1 | ⟨h1,h2⟩ | ⟨h1,h2,h3⟩ | ⟨h1,h2,h3,h4⟩ | ⟨h1,h2,h3,h4,h5⟩ | ⟨h1,h2,h3,h4,h5,h6⟩ | ⟨h1,h2,h3,h4,h5,h6,h7⟩ | ⟨h1,h2,h3,h4,h5,h6,h7,h8⟩ | ⟨h1,h2,h3,h4,h5,h6,h7,h8,h9⟩
 all_goals
  go_enter Tryz.func54,Tryz.ntmps54
  go_wp2
  go_ret2
  exact⟨rfl,rfl⟩
theorem refSteps_in (n k s p m e:Int) (h:argsB n k s p=true) (hm:(if n+2 * p - k < 0 then 0 else (n+2 * p - k) / s+1)=m) (he:(if n+2 * p - k < 0 then 5 else 0)=e) (w:World) :
  Calls Tryz.prog 54 #[.int .i64 n,.int .i64 k,.int .i64 s,.int .i64 p] w fun e' w'=>e'=.returned (.tuple #[.int .i64 m,.int .i64 e])∧w=w':=by
 obtain⟨h1,h2,h3,h4,h5,h6,h7,h8,h9⟩:=za7 h
 clear h
 have hs:s=1∨s=2∨s=3∨s=4:=by omega
 have key:∀ i:Int,0≤i→i≤m→(i < m∧i * s≤n+2 * p - k∨i=m∧¬ i * s≤n+2 * p - k):=by
  intro i hi hl
  rcases hs with rfl | rfl | rfl | rfl <;> omega
 have key2:m=0∧e=5∨1≤m∧¬ m=0∧e=0:=by
  rcases hs with rfl | rfl | rfl | rfl <;> omega
 have hm0:0≤m:=by omega
 have hm9:m≤2000:=by rcases hs with rfl | rfl | rfl | rfl <;> omega
 have KEY:=hid key
 have KEY2:=hid key2
 clear hm he key key2 hs
 go_enter Tryz.func54,Tryz.ntmps54
 go_wp2
 go_loop [10,11] (fun c t=>∃ (i a:Int),0≤i∧i≤m∧c=.int .i64 i∧t=.int .i64 a∧0≤a+p∧a≤20000∧Hid (a = -p+i * s)) (fun c _=>(m - intOf c).toNat)
 case atStart=>exact⟨0, -p,by omega,by omega,rfl,rfl,by omega,by omega,hid (by omega)⟩
 case round =>
  obtain⟨i,a,hi0,him,rfl,rfl,ha1,ha2,ha⟩:=hrel
  rcases KEY.out i hi0 him with ⟨q1,q2⟩ | ⟨q1,q2⟩
  ·have ht:a+k≤n+p:=by have:=ha.out;omega
   clear q2
   go_wp2
   go_round
   case rel=>exact⟨i+1,a+s,by omega,by omega,by go_num,by go_num,by omega,by omega,hid (by have:=ha.out;rw [Int.add_mul];omega)⟩
   case measure=>simp [intOf];omega
  ·have ht:¬ (a+k≤n+p):=by have:=ha.out;omega
   clear q2
   subst q1
   rcases KEY2.out with ⟨r1,r2⟩ | ⟨r1,r2,r3⟩
   ·subst r1 r2
    go_wp2
    go_ret2
    exact⟨rfl,rfl⟩
   ·subst r3
    go_wp2
    go_ret2
    exact⟨rfl,rfl⟩
theorem zbw (n k s p m e:Int) (hm:zak n k s p=m) (he:zba n k s p=e) (w:World) :
  Calls Tryz.prog 54 #[.int .i64 n,.int .i64 k,.int .i64 s,.int .i64 p] w fun r w'=>r=.returned (.tuple #[.int .i64 m,.int .i64 e])∧w=w':=by
 unfold zak at hm
 unfold zba at he
 cases h:argsB n k s p
 ·rw [if_neg (by simp [h])] at hm he
  subst hm he
  exact refSteps_arg n k s p h w
 ·rw [if_pos h] at hm he
  exact refSteps_in n k s p m e h hm he w
theorem refSlide_wrong (H W C k s p o:Int) (hs:zae H W C=false) (wd:World) :
  Calls Tryz.prog 40 #[.agg #[.int .i64 H,.int .i64 W,.int .i64 C],.int .i64 k,.int .i64 s,.int .i64 p,.int .i64 o] wd fun e w'=>e=.returned (.tuple #[.agg #[.int .i64 0,.int .i64 0,.int .i64 0],.int .i64 5])∧Below wd.heap.size wd w':=by
 have HS:=hid (zbe hs)
 clear hs
 go_enter Tryz.func40,Tryz.ntmps40
 go_wp2_with (go_at_call 13;refine (zaf _ _ _ 0 HS.out _).mono ?_;rintro e w1 ⟨rfl,hb⟩;obtain⟨hc,hf⟩:=Kit.bcell hb)
 have hs1:wd.heap.size+1 < w1.heap.size:=by have:=hb.size;simp at this;omega
 have hB:Below wd.heap.size wd w1:=(((Below.refl _ _).alloc (le_refl _) _).alloc (by simp) _).trans (hb.mono (by simp;omega))
 refine bodyPost_ret (Kit.zaa rfl _ _ (wd.heap.size+1) 0 [.int .i64 0,.int .i64 0,.int .i64 0] _ rfl (Kit.zaj (by go_cell) (by go_cell) (by go_cell)) Tryz.underlying23 rfl (by kernel_rfl)) rfl ?_
 exact⟨rfl,by go_grown⟩
theorem refSlide_one (H W C k s p o m e1:Int) (hs:zae H W C=true) (hm:zak H k s p=m) (he:zba H k s p=e1) (hn:e1≠0) (wd:World) :
  Calls Tryz.prog 40 #[.agg #[.int .i64 H,.int .i64 W,.int .i64 C],.int .i64 k,.int .i64 s,.int .i64 p,.int .i64 o] wd fun e w'=>e=.returned (.tuple #[.agg #[.int .i64 0,.int .i64 0,.int .i64 0],.int .i64 e1])∧Below wd.heap.size wd w':=by
 obtain⟨n,hn0,hn1,hn2⟩:=zca hs
 have HS:=hid hn0
 have HM:=hid hm
 have HE:=hid he
 clear hs hn0 hm he
 go_enter Tryz.func40,Tryz.ntmps40
 go_wp2_with (first
  | (go_at_call 13;refine (zaf _ _ _ n HS.out _).mono ?_;rintro e w1 ⟨rfl,hb⟩;obtain⟨hc,hf⟩:=Kit.bcell hb)
  | (go_at_call 54;refine (zbw _ _ _ _ m e1 HM.out HE.out _).mono ?_;rintro e w' ⟨rfl,rfl⟩))
 have hs1:wd.heap.size+1 < w1.heap.size:=by have:=hb.size;simp at this;omega
 have hB:Below wd.heap.size wd w1:=(((Below.refl _ _).alloc (le_refl _) _).alloc (by simp) _).trans (hb.mono (by simp;omega))
 refine bodyPost_ret (Kit.zaa rfl _ _ (wd.heap.size+1) 0 [.int .i64 0,.int .i64 0,.int .i64 0] _ rfl (Kit.zaj (by go_cell) (by go_cell) (by go_cell)) Tryz.underlying23 rfl (by kernel_rfl)) rfl ?_
 exact⟨rfl,by go_grown⟩
theorem refSlide_two (H W C k s p o m m2 e2:Int) (hs:zae H W C=true) (hm:zak H k s p=m) (he:zba H k s p=0) (hm2:zak W k s p=m2) (he2:zba W k s p=e2) (hn:e2≠0) (wd:World) :
  Calls Tryz.prog 40 #[.agg #[.int .i64 H,.int .i64 W,.int .i64 C],.int .i64 k,.int .i64 s,.int .i64 p,.int .i64 o] wd fun e w'=>e=.returned (.tuple #[.agg #[.int .i64 0,.int .i64 0,.int .i64 0],.int .i64 e2])∧Below wd.heap.size wd w':=by
 obtain⟨n,hn0,hn1,hn2⟩:=zca hs
 have HS:=hid hn0
 have HM:=hid hm
 have HE:=hid he
 have HM2:=hid hm2
 have HE2:=hid he2
 clear hs hn0 hm he hm2 he2
 go_enter Tryz.func40,Tryz.ntmps40
 go_wp2_with (first
  | (go_at_call 13;((with_reducible refine (zaf H W C n HS.out _).mono ?_);rintro e w1 ⟨rfl,hb⟩;obtain⟨hc,hf⟩:=Kit.bcell hb))
  | (go_at_call 54;((with_reducible refine (zbw H k s p m 0 HM.out HE.out _).mono ?_);rintro e w' ⟨rfl,rfl⟩))
  | (go_at_call 54;((with_reducible refine (zbw W k s p m2 e2 HM2.out HE2.out _).mono ?_);rintro e w' ⟨rfl,rfl⟩)))
 have hs1:wd.heap.size+1 < w1.heap.size:=by have:=hb.size;simp at this;omega
 have hB:Below wd.heap.size wd w1:=(((Below.refl _ _).alloc (le_refl _) _).alloc (by simp) _).trans (hb.mono (by simp;omega))
 refine bodyPost_ret (Kit.zaa rfl _ _ (wd.heap.size+1) 0 [.int .i64 0,.int .i64 0,.int .i64 0] _ rfl (Kit.zaj (by go_cell) (by go_cell) (by go_cell)) Tryz.underlying23 rfl (by kernel_rfl)) rfl ?_
 exact⟨rfl,by go_grown⟩
theorem refSlide_bad (H W C k s p o m m2:Int) (hs:zae H W C=true) (hm:zak H k s p=m) (he:zba H k s p=0) (hm2:zak W k s p=m2) (he2:zba W k s p=0) (hr:zae m m2 o=false) (wd:World) :
  Calls Tryz.prog 40 #[.agg #[.int .i64 H,.int .i64 W,.int .i64 C],.int .i64 k,.int .i64 s,.int .i64 p,.int .i64 o] wd fun e w'=>e=.returned (.tuple #[.agg #[.int .i64 0,.int .i64 0,.int .i64 0],.int .i64 5])∧Below wd.heap.size wd w':=by
 obtain⟨n,hn0,hn1,hn2⟩:=zca hs
 have HS:=hid hn0
 have HM:=hid hm
 have HE:=hid he
 have HM2:=hid hm2
 have HE2:=hid he2
 have HR:=hid (zbe hr)
 clear hs hn0 hm he hm2 he2 hr
 go_enter Tryz.func40,Tryz.ntmps40
 go_wp2_with (first
  | (go_at_call 13;((with_reducible refine (zaf H W C n HS.out _).mono ?_);rintro e w1 ⟨rfl,hb⟩;obtain⟨hc,hf⟩:=Kit.bcell hb))
  | (go_at_call 54;((with_reducible refine (zbw H k s p m 0 HM.out HE.out _).mono ?_);rintro e w' ⟨rfl,rfl⟩))
  | (go_at_call 54;((with_reducible refine (zbw W k s p m2 0 HM2.out HE2.out _).mono ?_);rintro e w' ⟨rfl,rfl⟩))
  | (go_at_call 13;((with_reducible refine (zaf m m2 o 0 HR.out _).mono ?_);(rintro e w2 ⟨rfl,hb2⟩;have hs1:wd.heap.size+1 < w1.heap.size:=(by have:=hb.size;simp at this;omega);have d0:w2.cell? ⟨wd.heap.size+1,0,none⟩=some (.int .i64 0):=(hb2.cell (p:=⟨wd.heap.size+1,0,none⟩) (by simp;omega)).trans (by go_cell);have d1:w2.cell? ⟨wd.heap.size+1,1,none⟩=some (.int .i64 0):=(hb2.cell (p:=⟨wd.heap.size+1,1,none⟩) (by simp;omega)).trans (by go_cell);have d2:w2.cell? ⟨wd.heap.size+1,2,none⟩=some (.int .i64 0):=(hb2.cell (p:=⟨wd.heap.size+1,2,none⟩) (by simp;omega)).trans (by go_cell);have g0:w2.frozen? ⟨wd.heap.size+1,0,none⟩=false:=(hb2.frozen (p:=⟨wd.heap.size+1,0,none⟩) (by simp;omega)).trans (by go_cell);have g1:w2.frozen? ⟨wd.heap.size+1,1,none⟩=false:=(hb2.frozen (p:=⟨wd.heap.size+1,1,none⟩) (by simp;omega)).trans (by go_cell);have g2:w2.frozen? ⟨wd.heap.size+1,2,none⟩=false:=(hb2.frozen (p:=⟨wd.heap.size+1,2,none⟩) (by simp;omega)).trans (by go_cell);have c0:w2.cell? ⟨w1.heap.size,0,none⟩=some (.int .i64 m):=(hb2.cell (p:=⟨w1.heap.size,0,none⟩) (by simp)).trans (by go_cell);have c1:w2.cell? ⟨w1.heap.size,1,none⟩=some (.int .i64 m2):=(hb2.cell (p:=⟨w1.heap.size,1,none⟩) (by simp)).trans (by go_cell);have c2:w2.cell? ⟨w1.heap.size,2,none⟩=some (.int .i64 o):=(hb2.cell (p:=⟨w1.heap.size,2,none⟩) (by simp)).trans (by go_cell);clear hc hf))))
 have hs2:w1.heap.size < w2.heap.size:=by have:=hb2.size;simp at this;omega
 have hB:Below wd.heap.size wd w1:=(((Below.refl _ _).alloc (le_refl _) _).alloc (by simp) _).trans (hb.mono (by simp;omega))
 have hB2:Below wd.heap.size wd w2:=(by go_grown:Below wd.heap.size wd _).trans (hb2.mono (by simp;omega))
 refine bodyPost_ret (Kit.zaa rfl _ _ (wd.heap.size+1) 0 [.int .i64 0,.int .i64 0,.int .i64 0] _ rfl (Kit.zaj (by go_cell) (by go_cell) (by go_cell)) Tryz.underlying23 rfl (by kernel_rfl)) rfl ?_
 exact⟨rfl,by go_grown⟩
theorem refSlide_good (H W C k s p o m m2:Int) (hs:zae H W C=true) (hm:zak H k s p=m) (he:zba H k s p=0) (hm2:zak W k s p=m2) (he2:zba W k s p=0) (hr:zae m m2 o=true) (wd:World) :
  Calls Tryz.prog 40 #[.agg #[.int .i64 H,.int .i64 W,.int .i64 C],.int .i64 k,.int .i64 s,.int .i64 p,.int .i64 o] wd fun e w'=>e=.returned (.tuple #[.agg #[.int .i64 m,.int .i64 m2,.int .i64 o],.int .i64 0])∧Below wd.heap.size wd w':=by
 obtain⟨n,hn0,hn1,hn2⟩:=zca hs
 have HS:=hid hn0
 have HM:=hid hm
 have HE:=hid he
 have HM2:=hid hm2
 have HE2:=hid he2
 obtain⟨n2,hq0,hq1,hq2⟩:=zca hr
 have HR:=hid hq0
 clear hq0 hs hn0 hm he hm2 he2 hr
 go_enter Tryz.func40,Tryz.ntmps40
 go_wp2_with (first
  | (go_at_call 13;((with_reducible refine (zaf H W C n HS.out _).mono ?_);rintro e w1 ⟨rfl,hb⟩;obtain⟨hc,hf⟩:=Kit.bcell hb))
  | (go_at_call 54;((with_reducible refine (zbw H k s p m 0 HM.out HE.out _).mono ?_);rintro e w' ⟨rfl,rfl⟩))
  | (go_at_call 54;((with_reducible refine (zbw W k s p m2 0 HM2.out HE2.out _).mono ?_);rintro e w' ⟨rfl,rfl⟩))
  | (go_at_call 13;((with_reducible refine (zaf m m2 o n2 HR.out _).mono ?_);(rintro e w2 ⟨rfl,hb2⟩;have hs1:wd.heap.size+1 < w1.heap.size:=(by have:=hb.size;simp at this;omega);have d0:w2.cell? ⟨wd.heap.size+1,0,none⟩=some (.int .i64 0):=(hb2.cell (p:=⟨wd.heap.size+1,0,none⟩) (by simp;omega)).trans (by go_cell);have d1:w2.cell? ⟨wd.heap.size+1,1,none⟩=some (.int .i64 0):=(hb2.cell (p:=⟨wd.heap.size+1,1,none⟩) (by simp;omega)).trans (by go_cell);have d2:w2.cell? ⟨wd.heap.size+1,2,none⟩=some (.int .i64 0):=(hb2.cell (p:=⟨wd.heap.size+1,2,none⟩) (by simp;omega)).trans (by go_cell);have g0:w2.frozen? ⟨wd.heap.size+1,0,none⟩=false:=(hb2.frozen (p:=⟨wd.heap.size+1,0,none⟩) (by simp;omega)).trans (by go_cell);have g1:w2.frozen? ⟨wd.heap.size+1,1,none⟩=false:=(hb2.frozen (p:=⟨wd.heap.size+1,1,none⟩) (by simp;omega)).trans (by go_cell);have g2:w2.frozen? ⟨wd.heap.size+1,2,none⟩=false:=(hb2.frozen (p:=⟨wd.heap.size+1,2,none⟩) (by simp;omega)).trans (by go_cell);have c0:w2.cell? ⟨w1.heap.size,0,none⟩=some (.int .i64 m):=(hb2.cell (p:=⟨w1.heap.size,0,none⟩) (by simp)).trans (by go_cell);have c1:w2.cell? ⟨w1.heap.size,1,none⟩=some (.int .i64 m2):=(hb2.cell (p:=⟨w1.heap.size,1,none⟩) (by simp)).trans (by go_cell);have c2:w2.cell? ⟨w1.heap.size,2,none⟩=some (.int .i64 o):=(hb2.cell (p:=⟨w1.heap.size,2,none⟩) (by simp)).trans (by go_cell);clear hc hf))))
 have hs2:w1.heap.size < w2.heap.size:=by have:=hb2.size;simp at this;omega
 have hB:Below wd.heap.size wd w1:=(((Below.refl _ _).alloc (le_refl _) _).alloc (by simp) _).trans (hb.mono (by simp;omega))
 have hB2:Below wd.heap.size wd w2:=(by go_grown:Below wd.heap.size wd _).trans (hb2.mono (by simp;omega))
 refine bodyPost_ret (Kit.zaa rfl _ _ (wd.heap.size+1) 0 [.int .i64 m,.int .i64 m2,.int .i64 o] _ rfl (Kit.zaj (by go_cell) (by go_cell) (by go_cell)) Tryz.underlying23 rfl (by kernel_rfl)) rfl ?_
 exact⟨rfl,by go_grown⟩
theorem za8 (H W C k s p o e:Int) (v:Array Value) (he:za1 H W C k s p o=e) (hv:zaw H W C k s p o=v) (wd:World) :
  Calls Tryz.prog 40 #[.agg #[.int .i64 H,.int .i64 W,.int .i64 C],.int .i64 k,.int .i64 s,.int .i64 p,.int .i64 o] wd fun r w'=>r=.returned (.tuple #[.agg v,.int .i64 e])∧Below wd.heap.size wd w':=by
 subst hv
 unfold zaw
 rw [he]
 unfold za1 at he
 cases hs:zae H W C
 ·rw [if_pos hs] at he
  subst he
  exact refSlide_wrong H W C k s p o hs wd
 ·rw [if_neg (by simp [hs])] at he
  by_cases h1:zba H k s p=0
  ·rw [if_neg (by simp [h1])] at he
   by_cases h2:zba W k s p=0
   ·rw [if_neg (by simp [h2])] at he
    cases hr:zae (zak H k s p) (zak W k s p) o
    ·rw [if_neg (by simp [hr])] at he
     subst he
     exact refSlide_bad H W C k s p o _ _ hs rfl h1 rfl h2 hr wd
    ·rw [if_pos hr] at he
     subst he
     exact refSlide_good H W C k s p o _ _ hs rfl h1 rfl h2 hr wd
   ·rw [if_pos h2] at he
    subst he
    rw [if_neg h2]
    exact refSlide_two H W C k s p o _ _ _ hs rfl h1 rfl rfl h2 wd
  ·rw [if_pos h1] at he
   subst he
   rw [if_neg h1]
   exact refSlide_one H W C k s p o _ _ hs rfl rfl h1 wd
end CShape
end
section
namespace CTensor
open Go Go.ChangeShapes Go.WideShapes Go.ChangeAt Go.RowKit
open Plain CSat CShape
def I8s (zs:List Int):List Value:=zs.map (.int .i8)
end CTensor
end
section
namespace CSat
open Go Go.ChangeShapes Go.WideShapes Go.ChangeAt Go.RowKit
open Plain
theorem refHeld (v lo hi:Int) (w:World) :
  Calls Tryz.prog 67 #[.int .i64 v,.int .i64 lo,.int .i64 hi] w fun e w'=>e=.returned (.int .i64 (zbt v lo hi))∧w=w':=by
 by_cases h1:v < lo
 ·go_enter Tryz.func67,Tryz.ntmps67
  go_wp2
  go_ret
  exact⟨zbr (by exact clampZ_lo (by omega)),rfl⟩
 ·by_cases h2:v > hi
  ·go_enter Tryz.func67,Tryz.ntmps67
   go_wp2
   go_ret
   exact⟨zbr (by exact clampZ_hi (by omega) (by omega)),rfl⟩
  ·go_enter Tryz.func67,Tryz.ntmps67
   go_wp2
   go_ret
   exact⟨zbr (by exact clampZ_in (by omega) (by omega)),rfl⟩
end CSat
end
end Go.Proofs.YtoffcaldhojjoaaGreatDoor
