/- -/
import Derived.Test.YtceehogkckdbkaaDoorGH32
import Derived.Test.YtceehogkckdbkaaDoorGH34
open Nat (le_refl lt_of_succ_lt lt_succ_self)
set_option linter.unusedVariables false
set_option linter.unusedSimpArgs false
set_option maxRecDepth 100000
set_option maxHeartbeats 16000000
namespace Go.Proofs.YtceehogkckdbkaaDoor
namespace CConv
end CConv
namespace CFix
end CFix
namespace CGraph
end CGraph
namespace CJoin
end CJoin
namespace CKind
end CKind
namespace CSat
end CSat
namespace CShape
end CShape
namespace CSpan
end CSpan
namespace CTensor
end CTensor
open Go Go.ChangeShapes Go.WideShapes Go.ChangeAt Go.RowKit Go.Deep
section
namespace CGuard
open Plain CSat CFix CShape CTensor CConv CSpan CKind CGraph CJoin
theorem zak.newC (w:World) (x:Nd) (l h l2 h2:Int):zak w.heap.size x l h l2 h2 ((((w.alloc (.cells x.val 29)).alloc (.cells #[.int .i8 l,.int .i8 h] 42)).alloc (.cells #[.int .i8 l2,.int .i8 h2] 42)).alloc (.cells #[.int .i8 0,.int .i8 0] 42))∧Below w.heap.size w ((((w.alloc (.cells x.val 29)).alloc (.cells #[.int .i8 l,.int .i8 h] 42)).alloc (.cells #[.int .i8 l2,.int .i8 h2] 42)).alloc (.cells #[.int .i8 0,.int .i8 0] 42)):=by
 have b4:Below (w.heap.size+3) (((w.alloc (.cells x.val 29)).alloc (.cells #[.int .i8 l,.int .i8 h] 42)).alloc (.cells #[.int .i8 l2,.int .i8 h2] 42)) ((((w.alloc (.cells x.val 29)).alloc (.cells #[.int .i8 l,.int .i8 h] 42)).alloc (.cells #[.int .i8 l2,.int .i8 h2] 42)).alloc (.cells #[.int .i8 0,.int .i8 0] 42)):=(Below.refl _ _).alloc (by simp) _
 have b3:Below (w.heap.size+2) ((w.alloc (.cells x.val 29)).alloc (.cells #[.int .i8 l,.int .i8 h] 42)) ((((w.alloc (.cells x.val 29)).alloc (.cells #[.int .i8 l,.int .i8 h] 42)).alloc (.cells #[.int .i8 l2,.int .i8 h2] 42)).alloc (.cells #[.int .i8 0,.int .i8 0] 42)):=((Below.refl _ _).alloc (by simp) _).trans (b4.mono (by omega))
 have b2:Below (w.heap.size+1) (w.alloc (.cells x.val 29)) ((((w.alloc (.cells x.val 29)).alloc (.cells #[.int .i8 l,.int .i8 h] 42)).alloc (.cells #[.int .i8 l2,.int .i8 h2] 42)).alloc (.cells #[.int .i8 0,.int .i8 0] 42)):=((Below.refl _ _).alloc (by simp) _).trans (b3.mono (by omega))
 have b1:Below w.heap.size w ((((w.alloc (.cells x.val 29)).alloc (.cells #[.int .i8 l,.int .i8 h] 42)).alloc (.cells #[.int .i8 l2,.int .i8 h2] 42)).alloc (.cells #[.int .i8 0,.int .i8 0] 42)):=((Below.refl _ _).alloc (le_refl _) _).trans (b2.mono (by omega))
 have q2:=rchNew l h 42 (w.alloc (.cells x.val 29))
 have q3:=rchNew l2 h2 42 ((w.alloc (.cells x.val 29)).alloc (.cells #[.int .i8 l,.int .i8 h] 42))
 have q4:=FreshR.new 42 (((w.alloc (.cells x.val 29)).alloc (.cells #[.int .i8 l,.int .i8 h] 42)).alloc (.cells #[.int .i8 l2,.int .i8 h2] 42))
 simp only [World.size_alloc] at q2 q3 q4
 exact⟨⟨(NdAt.new x 29 w).below (lt_succ_self _) b2,q2.below (lt_succ_self _) b3,q3.below (lt_succ_self _) b4,q4,by simp⟩,b1⟩
end CGuard
end
end Go.Proofs.YtceehogkckdbkaaDoor
