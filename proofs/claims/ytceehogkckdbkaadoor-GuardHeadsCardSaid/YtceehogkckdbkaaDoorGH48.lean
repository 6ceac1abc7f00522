/- -/
import Derived.Test.YtceehogkckdbkaaDoorGH36
import Derived.Test.YtceehogkckdbkaaDoorGH37
import Derived.Test.YtceehogkckdbkaaDoorGH38
import Derived.Test.YtceehogkckdbkaaDoorGH39
import Derived.Test.YtceehogkckdbkaaDoorGH40
import Derived.Test.YtceehogkckdbkaaDoorGH41
import Derived.Test.YtceehogkckdbkaaDoorGH42
import Derived.Test.YtceehogkckdbkaaDoorGH43
import Derived.Test.YtceehogkckdbkaaDoorGH44
import Derived.Test.YtceehogkckdbkaaDoorGH45
import Derived.Test.YtceehogkckdbkaaDoorGH46
import Derived.Test.YtceehogkckdbkaaDoorGH47
open Nat (le_refl lt_of_succ_lt lt_succ_self)
set_option linter.unusedVariables false
set_option linter.unusedSimpArgs false
set_option maxRecDepth 100000
set_option maxHeartbeats 16000000
namespace Go.Proofs.YtceehogkckdbkaaDoor
namespace CConv
end CConv
namespace CFix
end CFix
namespace CGraph
end CGraph
namespace CJoin
end CJoin
namespace CKind
end CKind
namespace CSat
end CSat
namespace CShape
end CShape
namespace CSpan
end CSpan
namespace CTensor
end CTensor
open Go Go.ChangeShapes Go.WideShapes Go.ChangeAt Go.RowKit Go.Deep
section
namespace CGuard
open Plain CSat CFix CShape CTensor CConv CSpan CKind CGraph CJoin
theorem NdL.belowG {w w':World} {x:Nd} {ws bs:List Int} (h:NdL w w.heap.size x ws bs) (hb:Below w.heap.size w w'):NdL w' w'.heap.size x ws bs :=
 ⟨CBund.NdOk.more (CBund.NdOk.below h.ok hb) hb.size,h.lw,h.lb,h.cw,h.iw,h.ib,(h.rw.below hb).more hb.size,(h.rb.below hb).more hb.size⟩
theorem cgnode_to {w:World} (x:Nd) (hx:x.Small) (hT:zab w) (l h l2 h2:Int) (bd:(-128≤l∧l≤127)∧(-128≤h∧h≤127)∧(-128≤l2∧l2≤127)∧(-128≤h2∧h2≤127)) (ws bs:List Int) (hL:NdL w w.heap.size x ws bs) (hW2:x.nW≤20000) (hB2:x.nB≤20000) :
  Calls Tryd.prog 11 #[.agg x.val,.agg #[.int .i8 l,.int .i8 h],.agg #[.int .i8 l2,.int .i8 h2]] w fun e w'=>e=.returned (.tuple #[.agg #[.int .i8 (gnZ x ws bs l h l2 h2).1,.int .i8 (gnZ x ws bs l h l2 h2).2.1],.int .i64 (gnZ x ws bs l h l2 h2).2.2])∧Below w.heap.size w w':=by
 have ok:=nbd_of hL.ok
 unfold gnZ
 by_cases hc:x.checkZ≠0
 ·rw [if_pos hc];exact cgn_chk x hx hT l h l2 h2 bd ok _ rfl hc
 ·rw [if_neg hc]
  have he:x.checkZ=0:=by omega
  have hkd:=check_kd he
  by_cases hlh:h < l
  ·rw [if_pos (.inl hlh)];exact cgn_arg x hx hT l h l2 h2 bd ok he hlh
  ·by_cases h6:x.kd=6∧h2 < l2
   ·rw [if_pos (.inr h6)];exact cgn_arg6 x hx hT l h l2 h2 bd ok he h6.1 (by omega) h6.2
   ·rw [if_neg (by omega)]
    by_cases hs3:x.kd=1∨x.kd=2∨x.kd=3
    ·rw [if_pos hs3]
     have CS:=fun (w':World) (hb:Below w.heap.size w w')=>csum_to (w:=w') x l h ⟨bd.1,bd.2.1⟩ ok ws bs (NdL.belowG hL hb) hW2 hB2
     change Calls _ _ _ _ fun e w'=>e=.returned (.tuple #[.agg #[.int .i8 (sgZ x ws bs l h).1,.int .i8 (sgZ x ws bs l h).2.1],.int .i64 (sgZ x ws bs l h).2.2])∧Below w.heap.size w w'
     rcases hs3 with k | k | k
     ·exact cgn_sum1 x hx hT l h l2 h2 bd ok he k (by omega) _ _ _ CS
     ·exact cgn_sum2 x hx hT l h l2 h2 bd ok he k (by omega) _ _ _ CS
     ·exact cgn_sum3 x hx hT l h l2 h2 bd ok he k (by omega) _ _ _ CS
    ·rw [if_neg hs3]
     by_cases k6:x.kd=6
     ·rw [if_pos k6];exact cgn_join x hx hT l h l2 h2 bd ok he k6 (by omega) (by omega)
     ·rw [if_neg k6]
      by_cases k7:x.kd=7
      ·rw [if_pos k7];exact cgn_act x hx hT l h l2 h2 bd ok he k7 (by omega)
      ·rw [if_neg k7]
       by_cases k8:x.kd=8∧0 < x.P
       ·rw [if_pos k8];exact cgn_pad x hx hT l h l2 h2 bd ok he k8.1 (by omega) _ _ (fun w=>bord_yes x l h k8.2 w)
       ·rw [if_neg k8]
        by_cases k9:x.kd=8
        ·exact cgn_pad x hx hT l h l2 h2 bd ok he k9 (by omega) _ _ (fun w=>bord_no x l h (fun h=>k8 ⟨k9,h⟩) w)
        ·have:x.kd=4∨x.kd=5∨x.kd=9:=by omega
         rcases this with k | k | k
         ·exact cgn_same4 x hx hT l h l2 h2 bd ok he k (by omega)
         ·exact cgn_same5 x hx hT l h l2 h2 bd ok he k (by omega)
         ·exact cgn_same9 x hx hT l h l2 h2 bd ok he k (by omega)
end CGuard
end
end Go.Proofs.YtceehogkckdbkaaDoor
