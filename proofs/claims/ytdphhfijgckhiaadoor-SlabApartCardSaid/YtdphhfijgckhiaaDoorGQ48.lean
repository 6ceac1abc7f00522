/- -/
import Derived.Test.YtdphhfijgckhiaaDoorGQ45
import Derived.Test.YtdphhfijgckhiaaDoorGQ47
open Go.Lib (hid)
open Nat (le_refl lt_of_succ_lt lt_succ_self)
set_option linter.unusedVariables false
set_option linter.unusedSimpArgs false
set_option maxRecDepth 100000
set_option maxHeartbeats 16000000
namespace Go.Proofs.YtdphhfijgckhiaaDoor
namespace CConv
end CConv
namespace CFix
end CFix
namespace CKind
end CKind
namespace CShape
end CShape
namespace CTensor
end CTensor
open Go Go.ChangeShapes Go.WideShapes Go.ChangeAt Go.RowKit Go.Deep
section
namespace CSlab
open Plain CSat CFix CShape CTensor CConv CKind CGraph
def outR (X:Nat→Nd) (t0:Tri) (n:Nat):Int:=match outS X t0 n with | some _=>0 | none=>rmF X t0 n
theorem of_view {X:Nat→Nd} {t0:Tri} {n:Nat} {w w':World} {e:Ending} (h:OfPost X t0 n w e w'):∃ (A B:Option Addr) (c d:Nat),e=.returned (.tuple #[.agg #[.slice A (outL X t0 n).length c,.slice B (outL X t0 n).length d,.int .i64 (outR X t0 n)],.int .i64 (outP X t0 n),.int .i64 (outZ X t0 n)])∧Kit.Rd w' w'.heap.size A (tvV (outL X t0 n))∧Kit.Rd w' w'.heap.size B (CArena.rowV (atF X t0 n) (outL X t0 n).length)∧Below w.heap.size w w':=by
 obtain⟨⟨k,z,h1,rfl⟩ | ⟨h1,v1,v2,rfl,ho1,ho2⟩,hb⟩:=h
 ·refine⟨none,none,0,0,?_,?_,?_,hb⟩
  ·unfold outL outP outZ outR;rw [h1];rfl
  ·unfold outL;rw [h1];exact Kit.Rd.nil
  ·unfold outL;rw [h1];exact Kit.Rd.nil
 ·obtain⟨A,c,rfl, -, -,hr⟩:=Kit.zba ho1
  obtain⟨B,d,rfl, -, -,hr2⟩:=Kit.zba ho2
  refine⟨A,B,c,d,?_,?_,?_,hb⟩
  ·unfold outL outP outZ outR;rw [h1];simp [shL_len]
  ·unfold outL;rw [h1];exact hr
  ·unfold outL;rw [h1];simp only [shL_len];exact hr2
theorem out_two (X:Nat→Nd) (t0:Tri) (n:Nat):(outZ X t0 n≠0∧(outL X t0 n).length=0∧outR X t0 n=0)∨(outZ X t0 n=0∧outS X t0 n=none∧outL X t0 n=shL X t0 n∧(outL X t0 n).length=n+1∧outR X t0 n=rmF X t0 n∧outP X t0 n=n):=by
 cases h:outS X t0 n with
 | some r =>
   left
   unfold outZ outL outR
   rw [h]
   exact⟨outS_nz (k:=r.1) h,rfl,rfl⟩
 | none =>
   right
   unfold outZ outL outR outP
   rw [h]
   exact⟨rfl,rfl,rfl,shL_len X t0 n,rfl,rfl⟩
def PlanAt (B:Nat) (v1 v2:Value) (R:Int) (wd:World):Prop:=wd.cell? ⟨B,0,none⟩=some v1∧wd.cell? ⟨B,1,none⟩=some v2∧wd.cell? ⟨B,2,none⟩=some (.int .i64 R)
theorem planNew (v1 v2:Value) (R:Int) (T:TypeId) (w:World):PlanAt w.heap.size v1 v2 R (w.alloc (.cells #[v1,v2,.int .i64 R] T)):=⟨Kit.zaf _ _ _ _,Kit.zaf _ _ _ _,Kit.zaf _ _ _ _⟩
theorem PlanAt.below {B B':Nat} {v1 v2:Value} {R:Int} {w w':World} (h:PlanAt B v1 v2 R w) (hB:B < B') (hb:Below B' w w'):PlanAt B v1 v2 R w' :=
 ⟨(hb.cell (p:=⟨B,0,none⟩) hB).trans h.1,(hb.cell (p:=⟨B,1,none⟩) hB).trans h.2.1,(hb.cell (p:=⟨B,2,none⟩) hB).trans h.2.2⟩
theorem node_one (w:World):zaq (w.alloc (.cells #[.int .i64 9,.int .i64 0,.int .i64 0,.int .i64 0,.int .i64 0,.int .i64 0,.int .i64 0,.int .i8 0,.int .i8 0,.slice none 0 0,.slice none 0 0,.int .i32 0,.int .i64 0,.int .i8 0,.int .i32 0,.int .i64 0,.int .i8 0,.int .i8 0,.int .i8 0] 50)) (w.alloc (.cells #[.int .i64 9,.int .i64 0,.int .i64 0,.int .i64 0,.int .i64 0,.int .i64 0,.int .i64 0,.int .i8 0,.int .i8 0,.slice none 0 0,.slice none 0 0,.int .i32 0,.int .i64 0,.int .i8 0,.int .i32 0,.int .i64 0,.int .i8 0,.int .i8 0,.int .i8 0] 50)).heap.size (some ⟨w.heap.size,0,none⟩) 1 (fun _=>nd9):=by
 intro j hj
 obtain rfl:j=0:=by omega
 refine⟨w.heap.size,0,rfl,by simp,fun q v hq=>?_⟩
 rw [Kit.zaf]
 have hq2:q < 19:=(List.getElem?_eq_some_iff.1 hq).1
 rw [← hq]
 match q,hq2 with
 | 0,_=>rfl
 | 1,_=>rfl
 | 2,_=>rfl
 | 3,_=>rfl
 | 4,_=>rfl
 | 5,_=>rfl
 | 6,_=>rfl
 | 7,_=>rfl
 | 8,_=>rfl
 | 9,_=>rfl
 | 10,_=>rfl
 | 11,_=>rfl
 | 12,_=>rfl
 | 13,_=>rfl
 | 14,_=>rfl
 | 15,_=>rfl
 | 16,_=>rfl
 | 17,_=>rfl
 | 18,_=>rfl
theorem nd9_small:nd9.Small:=⟨⟨by decide,by decide⟩,⟨by decide,by decide⟩,⟨by decide,by decide⟩,⟨by decide,by decide⟩⟩
theorem k_out:outS (fun _=>nd9) (2,1,1) 1=none:=by decide
theorem k_at:CArena.rowV (atF (fun _=>nd9) (2,1,1) 1) 2=[.int .i64 0,.int .i64 2]:=by
 have h0:atF (fun _=>nd9) (2,1,1) 1 0=0:=by decide
 have h1:atF (fun _=>nd9) (2,1,1) 1 1=2:=by decide
 simp [CArena.rowV,List.range_succ,h0,h1]
theorem k_rm:rmF (fun _=>nd9) (2,1,1) 1=4:=by decide
def KK (i:Nat):Int:=if i=0 then 0 else 2
theorem KK_row:rowI KK 2=[.int .i64 0,.int .i64 2]:=rfl
theorem known29 (w:World) (hT:zam w):Calls Tryd.prog 6 #[] w fun e w'=>e=.returned (.bool true)∧Below w.heap.size w w':=by
 have HN:=hid (node_one w)
 have HB0:=hid ((Below.refl w.heap.size w).alloc (le_refl _) (.cells #[.int .i64 9,.int .i64 0,.int .i64 0,.int .i64 0,.int .i64 0,.int .i64 0,.int .i64 0,.int .i8 0,.int .i8 0,.slice none 0 0,.slice none 0 0,.int .i32 0,.int .i64 0,.int .i8 0,.int .i32 0,.int .i64 0,.int .i8 0,.int .i8 0,.int .i8 0] 50))
 have HT:=hid (hT.below HB0.out hT.size)
 clear hT
 go_enter Tryd.func6,Tryd.ntmps6
 go_wp2_with fail
 go_at_call 7
 refine (of_to (fun _=>nd9) (2,1,1) 1 _ (by omega) _ _ HT.out (fun _ _=>nd9_small) HN.out).mono ?_
 rintro e w1 ⟨⟨k,z,h1,rfl⟩ | ⟨h1,v1,v2,rfl,ho1,ho2⟩,hb⟩
 ·rw [k_out] at h1;cases h1
 ·rw [k_rm]
  rw [k_at] at ho2
  obtain⟨A1,c1,rfl, -, -, -⟩:=Kit.zba ho1
  obtain⟨A2,c2,rfl, -, -,hrd⟩:=Kit.zba ho2
  have HB1:=hid (HB0.out.trans (hb.mono HB0.out.size))
  have hal:=(Below.refl w1.heap.size w1).alloc (le_refl _) (.cells #[.slice A1 (1+1) c1,.slice A2 (1+1) c2,.int .i64 4] 33)
  have HRD:=hid ((hrd.below hal).more hal.size)
  have HB2:=hid (HB1.out.trans (hal.mono HB1.out.size))
  have HPL:=hid (planNew (.slice A1 (1+1) c1) (.slice A2 (1+1) c2) 4 33 w1)
  clear h1 ho1 ho2 hb hrd hal HN HT HB0 HB1
  go_upto_region 2 with fail
  generalize w1.alloc (.cells #[.slice A1 (1+1) c1,.slice A2 (1+1) c2,.int .i64 4] 33)=W2 at HRD HB2 HPL ⊢
  obtain⟨p0,p1,p2⟩:=HPL.out
  go_wp2_with (go_at_call 12;(refine (isame_to KK 2 (by omega) A2 _ c2 2 _ (HRD.out.below ((Below.refl _ _).alloc (le_refl _) _)) (by rw [KK_row];exact Kit.Rd.new _ _ _ (lt_succ_self _))).mono ?_);rintro e w3 ⟨rfl,m,rfl⟩)
  go_ret
  exact⟨rfl,Kit.below_drewN (HB2.out.alloc HB2.out.size _) _⟩
/-! ### two rows that grow together -/
end CSlab
end
end Go.Proofs.YtdphhfijgckhiaaDoor
