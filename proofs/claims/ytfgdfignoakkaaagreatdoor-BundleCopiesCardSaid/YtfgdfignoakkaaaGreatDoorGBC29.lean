/- -/
import Derived.Test.YtfgdfignoakkaaaGreatDoorGBC28
open Go.Lib (hid)
open Nat (le_refl lt_of_succ_lt lt_succ_self)
set_option linter.unusedVariables false
set_option linter.unusedSimpArgs false
set_option maxRecDepth 100000
set_option maxHeartbeats 16000000
namespace Go.Proofs.YtfgdfignoakkaaaGreatDoor
namespace CConv
end CConv
namespace CGraph
end CGraph
namespace CKind
end CKind
namespace CSat
end CSat
namespace CShape
end CShape
namespace CTensor
end CTensor
namespace Kit
end Kit
namespace Plain
end Plain
open Go Go.ChangeShapes Go.WideShapes Go.ChangeAt Go.RowKit Go.Deep
section
namespace CBunM
open Kit Plain CSat CShape CTensor CConv CKind CGraph CBund CrcNum CCrc
theorem results_2b {fn:Func} {a b:Tmp} (h:fn.results=#[.tmp a,.tmp b]) (tmps:Array Value) (P:Program) (w:World):(results fn tmps).run P w=.ok (.tuple #[tmps.getD a undef,tmps.getD b undef]) w:=by
 simp [results,h]
theorem open_nil (w:World):Calls Tryz.prog 37 #[.slice none 0 0] w fun e w'=>e=.returned (.tuple #[.slice none 0 0,.int .i64 20])∧w'=w:=by
 go_enter Tryz.func37,Tryz.ntmps37
 go_wp2_with fail
 refine bodyPost_ret (results_2b rfl _ _ _) rfl ?_
 exact⟨rfl,rfl⟩
theorem decode_nil (w:World):Calls Tryz.prog 18 #[.slice none 0 0] w fun e w'=>e=.returned (.tuple #[.agg #[.int .i64 0,.int .i64 0,.int .i64 0,.int .i64 0,.slice none 0 0],.int .i64 20])∧Below w.heap.size w w':=by
 go_enter Tryz.func18,Tryz.ntmps18
 go_wp2_with (go_at_call 37;(with_reducible refine (open_nil _).mono ?_);rintro e w1 ⟨rfl,rfl⟩)
 refine bodyPost_ret (Kit.results_ct rfl _ _ w.heap.size 0 [.int .i64 0,.int .i64 0,.int .i64 0,.int .i64 0,.slice none 0 0] _ rfl (fun j v hj=>by rw [Nat.zero_add,Kit.zae];simpa using hj) Tryz.underlying26 rfl (by kernel_rfl)) rfl ?_
 exact⟨rfl,by go_grown⟩
theorem known35 (w:World) (hT:zah w):Calls Tryz.prog 9 #[] w fun e w'=>e=.returned (.bool true)∧Below w.heap.size w w':=by
 have HT:=hid hT
 clear hT
 go_enter Tryz.func9,Tryz.ntmps9
 go_wp2_with (first
  | (go_at_call 18;(with_reducible refine (decode_nil _).mono ?_);rintro e w1 ⟨rfl,hb⟩;have HB1:=hid hb;clear hb)
  | (go_at_call 15
     have hg:Below w.heap.size w ((w1.alloc (.cells #[.int .i64 0,.int .i64 0,.int .i64 0,.int .i64 0,.slice none 0 0] 26)).alloc (.cells #[.int .u8 1] 5)):=(HB1.out.alloc HB1.out.size _).alloc (by have:=HB1.out.size;simp;omega) _
     have HG:=hid hg
     have hrd:Rd ((w1.alloc (.cells #[.int .i64 0,.int .i64 0,.int .i64 0,.int .i64 0,.slice none 0 0] 26)).alloc (.cells #[.int .u8 1] 5)) (w1.heap.size+2) (some ⟨w1.heap.size+1,0,none⟩) ([1].map (.int .u8)):=by
      have:=Rd.new (w1.alloc (.cells #[.int .i64 0,.int .i64 0,.int .i64 0,.int .i64 0,.slice none 0 0] 26)) [.int .u8 1] 5 (B:=w1.heap.size+2) (by simp)
      rwa [World.size_alloc] at this
     refine (seal_to _ [1] 1 1 rfl (by decide) (by simp [U8s]) _ (HT.out.below hg HT.out.size) (B:=w1.heap.size+2) (by simp) hrd).mono ?_
     rintro e w3 ⟨A3,c3,rfl,h1,h2,h3,h4⟩
     have H4:=hid h4
     clear hg hrd h1 h2 h3 h4))
 go_ret
 exact⟨rfl,HG.out.trans (H4.out.mono HG.out.size)⟩
end CBunM
end
end Go.Proofs.YtfgdfignoakkaaaGreatDoor
