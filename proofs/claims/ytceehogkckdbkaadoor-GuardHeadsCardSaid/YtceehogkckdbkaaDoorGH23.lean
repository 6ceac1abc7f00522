/- -/
import Derived.Test.YtceehogkckdbkaaDoorGH20
import Derived.Test.YtceehogkckdbkaaDoorGH21
import Derived.Test.YtceehogkckdbkaaDoorGH22
open Nat (le_refl lt_of_succ_lt lt_succ_self)
set_option linter.unusedVariables false
set_option linter.unusedSimpArgs false
set_option maxRecDepth 100000
set_option maxHeartbeats 16000000
namespace Go.Proofs.YtceehogkckdbkaaDoor
namespace CConv
end CConv
namespace CFix
end CFix
namespace CGraph
end CGraph
namespace CJoin
end CJoin
namespace CKind
end CKind
namespace CSat
end CSat
namespace CShape
end CShape
namespace CSpan
end CSpan
namespace CTensor
end CTensor
namespace Kit
end Kit
open Go Go.ChangeShapes Go.WideShapes Go.ChangeAt Go.RowKit Go.Deep
section
namespace CGuard
open Plain CSat CFix CShape CTensor CConv CSpan CKind CGraph CJoin
def gnZ (x:Nd) (ws bs:List Int) (l h l2 h2:Int):Int × Int × Int :=
 if x.checkZ≠0 then (0,0,x.checkZ) else if h < l∨(x.kd=6∧h2 < l2) then (0,0,2)
 else if x.kd=1∨x.kd=2∨x.kd=3 then
  (if 1≤x.nB∧x.nW % x.nB=0 then (if fitB (lsW ws bs x.nW x.nB l h x.Z (decide (0 < x.P))) (grW ws bs x.nW x.nB l h x.Z (decide (0 < x.P)))=true then (min (heldZ (c32 (lsW ws bs x.nW x.nB l h x.Z (decide (0 < x.P)))) x.m1 x.s1 x.z1 x.lo x.hi) (heldZ (c32 (grW ws bs x.nW x.nB l h x.Z (decide (0 < x.P)))) x.m1 x.s1 x.z1 x.lo x.hi),max (heldZ (c32 (lsW ws bs x.nW x.nB l h x.Z (decide (0 < x.P)))) x.m1 x.s1 x.z1 x.lo x.hi) (heldZ (c32 (grW ws bs x.nW x.nB l h x.Z (decide (0 < x.P)))) x.m1 x.s1 x.z1 x.lo x.hi),0) else (0,0,10)) else (min (heldZ (c32 (0)) x.m1 x.s1 x.z1 x.lo x.hi) (heldZ (c32 (0)) x.m1 x.s1 x.z1 x.lo x.hi),max (heldZ (c32 (0)) x.m1 x.s1 x.z1 x.lo x.hi) (heldZ (c32 (0)) x.m1 x.s1 x.z1 x.lo x.hi),0))
 else if x.kd=6 then (oneZ l l2 x.Z x.Y x.m1 x.s1 x.z1 x.m2 x.s2 x.lo x.hi,oneZ h h2 x.Z x.Y x.m1 x.s1 x.z1 x.m2 x.s2 x.lo x.hi,0) else if x.kd=7 then (heldZ (l - x.Z) x.m1 x.s1 x.z1 x.lo x.hi,heldZ (h - x.Z) x.m1 x.s1 x.z1 x.lo x.hi,0) else if x.kd=8∧0 < x.P then (min l x.Z,max h x.Z,0) else (l,h,0)
theorem check_kd {x:Nd} (h:x.checkZ=0):1≤x.kd∧x.kd≤9:=by
 unfold Nd.checkZ at h
 split at h
 ·cases h
 ·rename_i h1;omega
end CGuard
end
section
namespace CKind
open Plain CSat CShape CTensor CConv
theorem own_to (x:Nd) (h:1≤x.kd∧x.kd≤9) (w:World) :
  Calls Tryd.prog 47 #[.agg x.val] w fun e w'=>e=.returned (.agg (x.ownK x.kd).val)∧Below w.heap.size w w':=by
 have:x.kd=1∨x.kd=2∨x.kd=3∨x.kd=4∨x.kd=5∨x.kd=6∨x.kd=7∨x.kd=8∨x.kd=9:=by omega
 rcases this with h | h | h | h | h | h | h | h | h
 ·rw [h];exact own_1 x h w
 ·rw [h];exact own_2 x h w
 ·rw [h];exact own_3 x h w
 ·rw [h];exact own_4 x h w
 ·rw [h];exact own_5 x h w
 ·rw [h];exact own_6 x h w
 ·rw [h];exact own_7 x h w
 ·rw [h];exact own_8 x h w
 ·rw [h];exact own_9 x h w
end CKind
end
section
namespace CBund
open Kit CKind CGraph
theorem NdOk.below {w w':World} {B:Nat} {x:Nd} (h:NdOk w B x) (hb:Below B w w'):NdOk w' B x:=by
 obtain⟨h1,h2,h3,h4,h5,h6,⟨zs,a1,a2,a3,a4,a5⟩,⟨ys,b1,b2,b3,b4,b5⟩⟩:=h
 exact⟨h1,h2,h3,h4,h5,h6,⟨zs,a1,a2,a3,a4,a5.below hb⟩,⟨ys,b1,b2,b3,b4,b5.below hb⟩⟩
theorem NdOk.more {w:World} {B B':Nat} {x:Nd} (h:NdOk w B x) (hB:B≤B'):NdOk w B' x:=by
 obtain⟨h1,h2,h3,h4,h5,h6,⟨zs,a1,a2,a3,a4,a5⟩,⟨ys,b1,b2,b3,b4,b5⟩⟩:=h
 exact⟨h1,h2,h3,h4,h5,h6,⟨zs,a1,a2,a3,a4,a5.more hB⟩,⟨ys,b1,b2,b3,b4,b5.more hB⟩⟩
end CBund
end
end Go.Proofs.YtceehogkckdbkaaDoor
