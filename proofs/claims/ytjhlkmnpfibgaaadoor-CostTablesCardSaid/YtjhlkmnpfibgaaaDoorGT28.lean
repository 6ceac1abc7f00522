/- -/
import Derived.Test.YtjhlkmnpfibgaaaDoorGT26
open Go.Lib (hid)
open Nat (le_refl lt_of_succ_lt lt_succ_self)
set_option linter.unusedVariables false
set_option linter.unusedSimpArgs false
set_option maxRecDepth 100000
set_option maxHeartbeats 16000000
namespace Go.Proofs.YtjhlkmnpfibgaaaDoor
namespace CConv
end CConv
namespace CDense
end CDense
namespace CSat
end CSat
namespace CTensor
end CTensor
open Go Go.ChangeShapes Go.WideShapes Go.ChangeAt Go.RowKit Go.Deep
section
namespace CKind
open Plain CSat CShape CTensor CConv CDense CDepth
theorem valid_to (H W C e u0 u1 u2:Int) (b:Bool) (hb:zae H W C=b) (he:(if b=true then (0:Int) else 5)=e) (hv:(if b=true then (#[.int .i64 H,.int .i64 W,.int .i64 C]:Array Value) else #[.int .i64 0,.int .i64 0,.int .i64 0])=#[.int .i64 u0,.int .i64 u1,.int .i64 u2]) (w:World) :
  Calls Tryd.prog 38 #[.agg #[.int .i64 H,.int .i64 W,.int .i64 C]] w fun r w'=>r=.returned (.tuple #[.agg #[.int .i64 u0,.int .i64 u1,.int .i64 u2],.int .i64 e])∧Below w.heap.size w w':=by
 have HR:=hid (za1 H W C b hb)
 have HB:Hid (Below w.heap.size w ((w.alloc (.cells #[.int .i64 H,.int .i64 W,.int .i64 C] 30)).alloc (.cells #[.int .i64 0,.int .i64 0,.int .i64 0] 30))):=hid (((Below.refl _ _).alloc (by first | exact le_refl _ | (simp;done) | (simp;omega) | omega) _).alloc (by first | exact le_refl _ | (simp;done) | (simp;omega) | omega) _)
 clear hb
 cases b
 all_goals
  simp only [if_true,if_false,Bool.false_eq_true] at he hv
  obtain⟨rfl,rfl,rfl⟩:=zaz hv
  subst he
  clear hv
  go_enter Tryd.func38,Tryd.ntmps38
  go_wp2_with (go_at_call 28;(with_reducible refine (HR.out _).mono ?_);rintro e1 w1 ⟨rfl,hb⟩;obtain⟨hcc,hff⟩:=Kit.bcell hb;have hz1:w.heap.size+1 < w1.heap.size:=(by have:=hb.size;simp at this;omega);(replace HB:=hid (HB.out.trans (hb.mono HB.out.size)));clear hb)
 ·refine bodyPost_ret (Kit.zab rfl _ _ (w.heap.size+1) 0 [.int .i64 0,.int .i64 0,.int .i64 0] _ rfl (Kit.zaj (by go_cell) (by go_cell) (by go_cell)) Tryd.underlying30 rfl (by kernel_rfl)) rfl ?_
  exact⟨rfl,((HB.out.setCell (p:=⟨w.heap.size+1,0,none⟩) (Nat.le_succ _) _).setCell (p:=⟨w.heap.size+1,1,none⟩) (Nat.le_succ _) _).setCell (p:=⟨w.heap.size+1,2,none⟩) (Nat.le_succ _) _⟩
 ·refine bodyPost_ret (Kit.zab rfl _ _ (w.heap.size+1) 0 [.int .i64 H,.int .i64 W,.int .i64 C] _ rfl (Kit.zaj (by go_cell) (by go_cell) (by go_cell)) Tryd.underlying30 rfl (by kernel_rfl)) rfl ?_
  exact⟨rfl,((HB.out.setCell (p:=⟨w.heap.size+1,0,none⟩) (Nat.le_succ _) _).setCell (p:=⟨w.heap.size+1,1,none⟩) (Nat.le_succ _) _).setCell (p:=⟨w.heap.size+1,2,none⟩) (Nat.le_succ _) _⟩
theorem shape_in {H W C:Int} (h:zae H W C=true):1≤H∧H≤16∧1≤W∧W≤16:=by
 obtain⟨a1,a2,a3,a4,_,_,_⟩:=zad h
 exact⟨a1,a2,a3,a4⟩
theorem widened_to (H W C P e u0 u1 u2:Int) (he:(if zae H W C=false then (5:Int) else if P < 0∨4 < P then 2 else if zae (H+2 * P) (W+2 * P) C=false then 5 else 0)=e) (hv:(if e≠0 then (#[.int .i64 0,.int .i64 0,.int .i64 0]:Array Value) else #[.int .i64 (H+2 * P),.int .i64 (W+2 * P),.int .i64 C])=#[.int .i64 u0,.int .i64 u1,.int .i64 u2]) (w:World) :
  Calls Tryd.prog 39 #[.agg #[.int .i64 H,.int .i64 W,.int .i64 C],.int .i64 P] w fun r w'=>r=.returned (.tuple #[.agg #[.int .i64 u0,.int .i64 u1,.int .i64 u2],.int .i64 e])∧Below w.heap.size w w':=by
 have HB:Hid (Below w.heap.size w ((w.alloc (.cells #[.int .i64 H,.int .i64 W,.int .i64 C] 30)).alloc (.cells #[.int .i64 0,.int .i64 0,.int .i64 0] 30))):=hid (((Below.refl _ _).alloc (by first | exact le_refl _ | (simp;done) | (simp;omega) | omega) _).alloc (by first | exact le_refl _ | (simp;done) | (simp;omega) | omega) _)
 cases hs:zae H W C
 ·have HR:=hid (za1 H W C false hs)
  rw [if_pos hs] at he
  subst he
  rw [if_pos (by decide)] at hv
  obtain⟨rfl,rfl,rfl⟩:=zaz hv
  clear hv hs
  go_enter Tryd.func39,Tryd.ntmps39
  go_wp2_with (go_at_call 28;(with_reducible refine (HR.out _).mono ?_);rintro e1 w1 ⟨rfl,hb⟩;obtain⟨hcc,hff⟩:=Kit.bcell hb;have hz1:w.heap.size+1 < w1.heap.size:=(by have:=hb.size;simp at this;omega);(replace HB:=hid (HB.out.trans (hb.mono HB.out.size)));clear hb)
  refine bodyPost_ret (Kit.zab rfl _ _ (w.heap.size+1) 0 [.int .i64 0,.int .i64 0,.int .i64 0] _ rfl (Kit.zaj (by go_cell) (by go_cell) (by go_cell)) Tryd.underlying30 rfl (by kernel_rfl)) rfl ?_
  exact⟨rfl,((HB.out.setCell (p:=⟨w.heap.size+1,0,none⟩) (Nat.le_succ _) _).setCell (p:=⟨w.heap.size+1,1,none⟩) (Nat.le_succ _) _).setCell (p:=⟨w.heap.size+1,2,none⟩) (Nat.le_succ _) _⟩
 ·have HR:=hid (za1 H W C true hs)
  obtain⟨a1,a2,a3,a4⟩:=shape_in hs
  rw [if_neg (by simp [hs])] at he
  clear hs
  by_cases hp:P < 0∨4 < P
  ·rw [if_pos hp] at he
   subst he
   rw [if_pos (by decide)] at hv
   obtain⟨rfl,rfl,rfl⟩:=zaz hv
   clear hv a1 a2 a3 a4
   rcases (show P < 0∨(¬ P < 0∧4 < P) by omega) with hq | ⟨hq,hq2⟩
   all_goals
    clear hp
    go_enter Tryd.func39,Tryd.ntmps39
    go_wp2_with (go_at_call 28;(with_reducible refine (HR.out _).mono ?_);rintro e1 w1 ⟨rfl,hb⟩;obtain⟨hcc,hff⟩:=Kit.bcell hb;have hz1:w.heap.size+1 < w1.heap.size:=(by have:=hb.size;simp at this;omega);(replace HB:=hid (HB.out.trans (hb.mono HB.out.size)));clear hb)
    refine bodyPost_ret (Kit.zab rfl _ _ (w.heap.size+1) 0 [.int .i64 0,.int .i64 0,.int .i64 0] _ rfl (Kit.zaj (by go_cell) (by go_cell) (by go_cell)) Tryd.underlying30 rfl (by kernel_rfl)) rfl ?_
    exact⟨rfl,((HB.out.setCell (p:=⟨w.heap.size+1,0,none⟩) (Nat.le_succ _) _).setCell (p:=⟨w.heap.size+1,1,none⟩) (Nat.le_succ _) _).setCell (p:=⟨w.heap.size+1,2,none⟩) (Nat.le_succ _) _⟩
  ·rw [if_neg hp] at he
   have p1:¬ P < 0:=by omega
   have p2:¬ 4 < P:=by omega
   have i1:IntKind.i64.wrap (2 * P)=2 * P:=IntWalk.i64_in _ (by omega)
   have i2:IntKind.i64.wrap (H+2 * P)=H+2 * P:=IntWalk.i64_in _ (by omega)
   have i3:IntKind.i64.wrap (W+2 * P)=W+2 * P:=IntWalk.i64_in _ (by omega)
   clear hp a1 a2 a3 a4
   have hva:(if zae (H+2 * P) (W+2 * P) C=true then (0:Int) else 5)=e:=by
    rw [← he];cases zae (H+2 * P) (W+2 * P) C <;> rfl
   have hvv:(if zae (H+2 * P) (W+2 * P) C=true then (#[.int .i64 (H+2 * P),.int .i64 (W+2 * P),.int .i64 C]:Array Value) else #[.int .i64 0,.int .i64 0,.int .i64 0])=#[.int .i64 u0,.int .i64 u1,.int .i64 u2]:=by
    rw [← hv, ← he];cases zae (H+2 * P) (W+2 * P) C <;> simp
   have HV:=hid (valid_to (H+2 * P) (W+2 * P) C e u0 u1 u2 _ rfl hva hvv)
   clear he hv hva hvv
   go_enter Tryd.func39,Tryd.ntmps39
   go_wp2_with (first
    | (go_at_call 28;(with_reducible refine (HR.out _).mono ?_);rintro e1 w1 ⟨rfl,hb⟩;obtain⟨hcc,hff⟩:=Kit.bcell hb;have hz1:w.heap.size+1 < w1.heap.size:=(by have:=hb.size;simp at this;omega);(replace HB:=hid (HB.out.trans (hb.mono HB.out.size)));clear hb)
    | (go_at_call 38;(with_reducible refine (HV.out _).mono ?_);rintro e1 w2 ⟨rfl,hb⟩;obtain⟨hcd,hfd⟩:=Kit.bcell hb;have hz2:w.heap.size+1 < w2.heap.size:=(Nat.lt_of_lt_of_le hz1 hb.size);(replace HB:=hid (HB.out.trans (hb.mono HB.out.size)));clear hb))
   refine bodyPost_ret (Kit.zab rfl _ _ (w.heap.size+1) 0 [.int .i64 u0,.int .i64 u1,.int .i64 u2] _ rfl (Kit.zaj (by go_cell) (by go_cell) (by go_cell)) Tryd.underlying30 rfl (by kernel_rfl)) rfl ?_
   exact⟨rfl,((HB.out.setCell (p:=⟨w.heap.size+1,0,none⟩) (Nat.le_succ _) _).setCell (p:=⟨w.heap.size+1,1,none⟩) (Nat.le_succ _) _).setCell (p:=⟨w.heap.size+1,2,none⟩) (Nat.le_succ _) _⟩
end CKind
end
end Go.Proofs.YtjhlkmnpfibgaaaDoor
