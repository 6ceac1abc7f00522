/- -/
import Derived.Test.YtdphhfijgckhiaaDoorGQ7
open Nat (le_refl lt_of_succ_lt lt_succ_self)
set_option linter.unusedVariables false
set_option linter.unusedSimpArgs false
set_option maxRecDepth 100000
set_option maxHeartbeats 16000000
namespace Go.Proofs.YtdphhfijgckhiaaDoor
open Go Go.ChangeShapes Go.WideShapes Go.ChangeAt Go.RowKit
section
namespace CShape
open Plain CSat
theorem refElems_yes (h w c n:Int) (h1:1≤h) (h2:h≤16) (h3:1≤w) (h4:w≤16) (h5:1≤c) (h6:c≤1024) (hn:h * w * c=n) (hn1:n≤1024) (W:World) :
  Calls Tryd.prog 9 #[.agg #[.int .i64 h,.int .i64 w,.int .i64 c]] W fun e w'=>e=.returned (.int .i64 n)∧Below W.heap.size W w':=by
 have hb:=prod_bd h1 h2 h3 h4 h5 h6
 obtain⟨b1,b2⟩:=hb
 have a1:1≤h * w:=Int.mul_le_mul h1 h3 (by omega) (by omega)
 have a2:h * w≤256:=Int.mul_le_mul h2 h4 (by omega) (by omega)
 subst hn
 go_enter Tryd.func9,Tryd.ntmps9
 go_wp2
 go_ret
 exact⟨rfl,(Below.refl _ _).alloc (le_refl _) _⟩
theorem refElems_many (h w c n:Int) (h1:1≤h) (h2:h≤16) (h3:1≤w) (h4:w≤16) (h5:1≤c) (h6:c≤1024) (hn:h * w * c=n) (hn1:1024 < n) (W:World) :
  Calls Tryd.prog 9 #[.agg #[.int .i64 h,.int .i64 w,.int .i64 c]] W fun e w'=>e=.returned (.int .i64 0)∧Below W.heap.size W w':=by
 have hb:=prod_bd h1 h2 h3 h4 h5 h6
 obtain⟨b1,b2⟩:=hb
 have a1:1≤h * w:=Int.mul_le_mul h1 h3 (by omega) (by omega)
 have a2:h * w≤256:=Int.mul_le_mul h2 h4 (by omega) (by omega)
 subst hn
 go_enter Tryd.func9,Tryd.ntmps9
 go_wp2
 go_ret
 exact⟨rfl,(Below.refl _ _).alloc (le_refl _) _⟩
theorem refElems_out (h w c:Int) (hw:h < 1∨(1≤h∧16 < h)∨(1≤h∧h≤16∧w < 1)∨(1≤h∧h≤16∧1≤w∧16 < w)∨(1≤h∧h≤16∧1≤w∧w≤16∧c < 1)∨(1≤h∧h≤16∧1≤w∧w≤16∧1≤c∧1024 < c)) (W:World) :
  Calls Tryd.prog 9 #[.agg #[.int .i64 h,.int .i64 w,.int .i64 c]] W fun e w'=>e=.returned (.int .i64 0)∧Below W.heap.size W w':=by
 rcases hw with h1 | ⟨h1,h2⟩ | ⟨h1,h2,h3⟩ | ⟨h1,h2,h3,h4⟩ | ⟨h1,h2,h3,h4,h5⟩ | ⟨h1,h2,h3,h4,h5,h6⟩
 all_goals
  go_enter Tryd.func9,Tryd.ntmps9
  go_wp2
  go_ret
  exact⟨rfl,(Below.refl _ _).alloc (le_refl _) _⟩
theorem refElems_to (h w c n:Int) (hn:zak h w c=n) (W:World) :
  Calls Tryd.prog 9 #[.agg #[.int .i64 h,.int .i64 w,.int .i64 c]] W fun e w'=>e=.returned (.int .i64 n)∧Below W.heap.size W w':=by
 cases hs:zab h w c
 ·rw [elemsZ_no hs] at hn
  subst hn
  by_cases hi:1≤h∧h≤16∧1≤w∧w≤16∧1≤c∧c≤1024
  ·obtain⟨a1,a2,a3,a4,a5,a6⟩:=hi
   exact refElems_many h w c _ a1 a2 a3 a4 a5 a6 rfl (by simp [zab] at hs;omega) W
  ·exact refElems_out h w c (by omega) W
 ·obtain⟨a1,a2,a3,a4,a5,a6,a7⟩:=zac hs
  rw [zas hs] at hn
  exact refElems_yes h w c n a1 a2 a3 a4 a5 a6 hn (hn ▸ a7) W
end CShape
end
end Go.Proofs.YtdphhfijgckhiaaDoor
