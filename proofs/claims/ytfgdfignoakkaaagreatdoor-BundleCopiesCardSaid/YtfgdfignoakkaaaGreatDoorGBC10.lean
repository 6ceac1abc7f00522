/- -/
import Derived.Test.YtfgdfignoakkaaaGreatDoorGBC6
import Derived.Test.YtfgdfignoakkaaaGreatDoorGBC9
open Nat (le_refl lt_of_succ_lt lt_succ_self)
set_option linter.unusedVariables false
set_option linter.unusedSimpArgs false
set_option maxRecDepth 100000
set_option maxHeartbeats 16000000
namespace Go.Proofs.YtfgdfignoakkaaaGreatDoor
namespace CGraph
end CGraph
namespace CKind
end CKind
namespace Kit
end Kit
open Go Go.ChangeShapes Go.WideShapes Go.ChangeAt Go.RowKit Go.Deep
section
namespace CBund
open Kit CKind CGraph
theorem ListOk.below {w w':World} {B:Nat} {k:IntKind} {A:Option Addr} {n c:Nat} (h:ListOk w B k A n c) (hb:Below B w w'):ListOk w' B k A n c:=by
 obtain⟨zs,h1,h2,h3,h4,h5⟩:=h
 exact⟨zs,h1,h2,h3,h4,h5.below hb⟩
theorem ListOk.more {w:World} {B B':Nat} {k:IntKind} {A:Option Addr} {n c:Nat} (h:ListOk w B k A n c) (hB:B≤B'):ListOk w B' k A n c:=by
 obtain⟨zs,h1,h2,h3,h4,h5⟩:=h
 exact⟨zs,h1,h2,h3,h4,h5.more hB⟩
theorem NdOk.below {w w':World} {B:Nat} {x:Nd} (h:NdOk w B x) (hb:Below B w w'):NdOk w' B x:=by
 obtain⟨h1,h2,h3,h4,h5,h6,⟨zs,a1,a2,a3,a4,a5⟩,⟨ys,b1,b2,b3,b4,b5⟩⟩:=h
 exact⟨h1,h2,h3,h4,h5,h6,⟨zs,a1,a2,a3,a4,a5.below hb⟩,⟨ys,b1,b2,b3,b4,b5.below hb⟩⟩
theorem NdOk.more {w:World} {B B':Nat} {x:Nd} (h:NdOk w B x) (hB:B≤B'):NdOk w B' x:=by
 obtain⟨h1,h2,h3,h4,h5,h6,⟨zs,a1,a2,a3,a4,a5⟩,⟨ys,b1,b2,b3,b4,b5⟩⟩:=h
 exact⟨h1,h2,h3,h4,h5,h6,⟨zs,a1,a2,a3,a4,a5.more hB⟩,⟨ys,b1,b2,b3,b4,b5.more hB⟩⟩
theorem BkOk.below {w w':World} {B:Nat} {b:Bk} (h:BkOk w B b) (hb:Below B w w'):BkOk w' B b :=
 ⟨h.cap,h.nodes.below hb,fun j hj=>NdOk.below (h.each j hj) hb,h.head.1,h.head.2.1.below hb,h.head.2.2.below hb⟩
theorem BkOk.more {w:World} {B B':Nat} {b:Bk} (h:BkOk w B b) (hB:B≤B'):BkOk w B' b :=
 ⟨h.cap,h.nodes.more hB,fun j hj=>NdOk.more (h.each j hj) hB,h.head.1,h.head.2.1.more hB,h.head.2.2.more hB⟩
theorem MdOk.below {w w':World} {B:Nat} {m:Md} (h:MdOk w B m) (hb:Below B w w'):MdOk w' B m :=
 ⟨h.cap,zaf.below h.blocks hb,fun j hj=>(h.each j hj).below hb⟩
theorem MdOk.more {w:World} {B B':Nat} {m:Md} (h:MdOk w B m) (hB:B≤B'):MdOk w B' m :=
 ⟨h.cap,zaf.more h.blocks hB,fun j hj=>(h.each j hj).more hB⟩
theorem BuOk.below {w w':World} {B:Nat} {u:Bu} (h:BuOk w B u) (hb:Below B w w'):BuOk w' B u :=
 ⟨h.nums,h.cap,zaf.below h.models hb,fun j hj=>(h.each j hj).below hb⟩
theorem BuOk.more {w:World} {B B':Nat} {u:Bu} (h:BuOk w B u) (hB:B≤B'):BuOk w B' u :=
 ⟨h.nums,h.cap,zaf.more h.models hB,fun j hj=>(h.each j hj).more hB⟩
end CBund
end
end Go.Proofs.YtfgdfignoakkaaaGreatDoor
