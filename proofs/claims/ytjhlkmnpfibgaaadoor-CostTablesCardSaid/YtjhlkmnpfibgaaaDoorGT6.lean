/- -/
import Derived.Test.YtjhlkmnpfibgaaaDoorGT5
open Go.Lib (hid)
open Nat (le_refl lt_of_succ_lt lt_succ_self)
set_option linter.unusedVariables false
set_option linter.unusedSimpArgs false
set_option maxRecDepth 100000
set_option maxHeartbeats 16000000
namespace Go.Proofs.YtjhlkmnpfibgaaaDoor
namespace CSat
end CSat
open Go Go.ChangeShapes Go.WideShapes Go.ChangeAt Go.RowKit
section
namespace CShape
open Plain CSat
theorem refElems_yes (h w c n:Int) (h1:1≤h) (h2:h≤16) (h3:1≤w) (h4:w≤16) (h5:1≤c) (h6:c≤1024) (hn:h * w * c=n) (hn1:n≤1024) (W:World) :
  Calls Tryd.prog 21 #[.agg #[.int .i64 h,.int .i64 w,.int .i64 c]] W fun e w'=>e=.returned (.int .i64 n)∧Below W.heap.size W w':=by
 have hb:=zbi h1 h2 h3 h4 h5 h6
 obtain⟨b1,b2⟩:=hb
 have a1:1≤h * w:=Int.mul_le_mul h1 h3 (by omega) (by omega)
 have a2:h * w≤256:=Int.mul_le_mul h2 h4 (by omega) (by omega)
 subst hn
 go_enter Tryd.func21,Tryd.ntmps21
 go_wp2
 go_ret
 exact⟨rfl,(Below.refl _ _).alloc (le_refl _) _⟩
theorem refElems_many (h w c n:Int) (h1:1≤h) (h2:h≤16) (h3:1≤w) (h4:w≤16) (h5:1≤c) (h6:c≤1024) (hn:h * w * c=n) (hn1:1024 < n) (W:World) :
  Calls Tryd.prog 21 #[.agg #[.int .i64 h,.int .i64 w,.int .i64 c]] W fun e w'=>e=.returned (.int .i64 0)∧Below W.heap.size W w':=by
 have hb:=zbi h1 h2 h3 h4 h5 h6
 obtain⟨b1,b2⟩:=hb
 have a1:1≤h * w:=Int.mul_le_mul h1 h3 (by omega) (by omega)
 have a2:h * w≤256:=Int.mul_le_mul h2 h4 (by omega) (by omega)
 subst hn
 go_enter Tryd.func21,Tryd.ntmps21
 go_wp2
 go_ret
 exact⟨rfl,(Below.refl _ _).alloc (le_refl _) _⟩
theorem refElems_out (h w c:Int) (hw:h < 1∨(1≤h∧16 < h)∨(1≤h∧h≤16∧w < 1)∨(1≤h∧h≤16∧1≤w∧16 < w)∨(1≤h∧h≤16∧1≤w∧w≤16∧c < 1)∨(1≤h∧h≤16∧1≤w∧w≤16∧1≤c∧1024 < c)) (W:World) :
  Calls Tryd.prog 21 #[.agg #[.int .i64 h,.int .i64 w,.int .i64 c]] W fun e w'=>e=.returned (.int .i64 0)∧Below W.heap.size W w':=by
 rcases hw with h1 | ⟨h1,h2⟩ | ⟨h1,h2,h3⟩ | ⟨h1,h2,h3,h4⟩ | ⟨h1,h2,h3,h4,h5⟩ | ⟨h1,h2,h3,h4,h5,h6⟩
 all_goals
  go_enter Tryd.func21,Tryd.ntmps21
  go_wp2
  go_ret
  exact⟨rfl,(Below.refl _ _).alloc (le_refl _) _⟩
theorem zah (h w c n:Int) (hn:zam h w c=n) (W:World) :
  Calls Tryd.prog 21 #[.agg #[.int .i64 h,.int .i64 w,.int .i64 c]] W fun e w'=>e=.returned (.int .i64 n)∧Below W.heap.size W w':=by
 cases hs:zae h w c
 ·rw [za8 hs] at hn
  subst hn
  by_cases hi:1≤h∧h≤16∧1≤w∧w≤16∧1≤c∧c≤1024
  ·obtain⟨a1,a2,a3,a4,a5,a6⟩:=hi
   exact refElems_many h w c _ a1 a2 a3 a4 a5 a6 rfl (by simp [zae] at hs;omega) W
  ·exact refElems_out h w c (by omega) W
 ·obtain⟨a1,a2,a3,a4,a5,a6,a7⟩:=zad hs
  rw [zao hs] at hn
  exact refElems_yes h w c n a1 a2 a3 a4 a5 a6 hn (hn ▸ a7) W
theorem zbx {h w c:Int} (hs:zae h w c=true):∃ n,zam h w c=n∧1≤n∧n≤1024:=by
 refine⟨_,rfl,?_,(elemsZ_bd h w c).2⟩
 have:=elemsZ_pos h w c
 rw [hs] at this
 simp at this;omega
theorem refSteps_arg (n k s p:Int) (h:argsB n k s p=false) (w:World) :
  Calls Tryd.prog 55 #[.int .i64 n,.int .i64 k,.int .i64 s,.int .i64 p] w fun e w'=>e=.returned (.tuple #[.int .i64 0,.int .i64 2])∧w=w':=by
 have h0:n < 1∨(1≤n∧1024 < n)∨(1≤n∧n≤1024∧k < 1)∨(1≤n∧n≤1024∧1≤k∧5 < k)∨(1≤n∧n≤1024∧1≤k∧k≤5∧s < 1)∨(1≤n∧n≤1024∧1≤k∧k≤5∧1≤s∧4 < s) ∨
  (1≤n∧n≤1024∧1≤k∧k≤5∧1≤s∧s≤4∧p < 0)∨(1≤n∧n≤1024∧1≤k∧k≤5∧1≤s∧s≤4∧0≤p∧4 < p)∨(1≤n∧n≤1024∧1≤k∧k≤5∧1≤s∧s≤4∧0≤p∧p≤4∧k≤p):=by
  have:=argsB_no h;omega
 clear h
 rcases h0 with h1 | ⟨h1,h2⟩ | ⟨h1,h2,h3⟩ | ⟨h1,h2,h3,h4⟩ | ⟨h1,h2,h3,h4,h5⟩ | ⟨h1,h2,h3,h4,h5,h6⟩ | ⟨h1,h2,h3,h4,h5,h6,h7⟩ | ⟨h1,h2,h3,h4,h5,h6,h7,h8⟩ | ⟨h1,h2,h3,h4,h5,h6,h7,h8,h9⟩
 all_goals
  go_enter Tryd.func55,Tryd.ntmps55
  go_wp2
  go_ret2
  exact⟨rfl,rfl⟩
theorem refSteps_in (n k s p m e:Int) (h:argsB n k s p=true) (hm:(if n+2 * p - k < 0 then 0 else (n+2 * p - k) / s+1)=m) (he:(if n+2 * p - k < 0 then 5 else 0)=e) (w:World) :
  Calls Tryd.prog 55 #[.int .i64 n,.int .i64 k,.int .i64 s,.int .i64 p] w fun e' w'=>e'=.returned (.tuple #[.int .i64 m,.int .i64 e])∧w=w':=by
 obtain⟨h1,h2,h3,h4,h5,h6,h7,h8,h9⟩:=zay h
 clear h
 have hs:s=1∨s=2∨s=3∨s=4:=by omega
 have key:∀ i:Int,0≤i→i≤m→(i < m∧i * s≤n+2 * p - k∨i=m∧¬ i * s≤n+2 * p - k):=by
  intro i hi hl
  rcases hs with rfl | rfl | rfl | rfl <;> omega
 have key2:m=0∧e=5∨1≤m∧¬ m=0∧e=0:=by
  rcases hs with rfl | rfl | rfl | rfl <;> omega
 have hm0:0≤m:=by omega
 have hm9:m≤2000:=by rcases hs with rfl | rfl | rfl | rfl <;> omega
 have KEY:=hid key
 have KEY2:=hid key2
 clear hm he key key2 hs
 go_enter Tryd.func55,Tryd.ntmps55
 go_wp2
 go_loop [10,11] (fun c t=>∃ (i a:Int),0≤i∧i≤m∧c=.int .i64 i∧t=.int .i64 a∧0≤a+p∧a≤20000∧Hid (a = -p+i * s)) (fun c _=>(m - intOf c).toNat)
 case atStart=>exact⟨0, -p,by omega,by omega,rfl,rfl,by omega,by omega,hid (by omega)⟩
 case round =>
  obtain⟨i,a,hi0,him,rfl,rfl,ha1,ha2,ha⟩:=hrel
  rcases KEY.out i hi0 him with ⟨q1,q2⟩ | ⟨q1,q2⟩
  ·have ht:a+k≤n+p:=by have:=ha.out;omega
   clear q2
   go_wp2
   go_round
   case rel=>exact⟨i+1,a+s,by omega,by omega,by go_num,by go_num,by omega,by omega,hid (by have:=ha.out;rw [Int.add_mul];omega)⟩
   case measure=>simp [intOf];omega
  ·have ht:¬ (a+k≤n+p):=by have:=ha.out;omega
   clear q2
   subst q1
   rcases KEY2.out with ⟨r1,r2⟩ | ⟨r1,r2,r3⟩
   ·subst r1 r2
    go_wp2
    go_ret2
    exact⟨rfl,rfl⟩
   ·subst r3
    go_wp2
    go_ret2
    exact⟨rfl,rfl⟩
theorem zbk (n k s p m e:Int) (hm:zai n k s p=m) (he:za4 n k s p=e) (w:World) :
  Calls Tryd.prog 55 #[.int .i64 n,.int .i64 k,.int .i64 s,.int .i64 p] w fun r w'=>r=.returned (.tuple #[.int .i64 m,.int .i64 e])∧w=w':=by
 unfold zai at hm
 unfold za4 at he
 cases h:argsB n k s p
 ·rw [if_neg (by simp [h])] at hm he
  subst hm he
  exact refSteps_arg n k s p h w
 ·rw [if_pos h] at hm he
  exact refSteps_in n k s p m e h hm he w
end CShape
end
end Go.Proofs.YtjhlkmnpfibgaaaDoor
