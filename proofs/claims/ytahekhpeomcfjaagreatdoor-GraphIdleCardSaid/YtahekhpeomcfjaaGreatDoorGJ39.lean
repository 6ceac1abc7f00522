/- -/
import Derived.Test.YtahekhpeomcfjaaGreatDoorGJ38
open Go.Lib (hid)
open Nat (le_refl lt_of_succ_lt lt_succ_self)
set_option linter.unusedVariables false
set_option linter.unusedSimpArgs false
set_option maxRecDepth 100000
set_option maxHeartbeats 16000000
namespace Go.Proofs.YtahekhpeomcfjaaGreatDoor
namespace CConv
end CConv
namespace CDense
end CDense
namespace CDepth
end CDepth
namespace CFix
end CFix
namespace CKind
end CKind
namespace CSat
end CSat
namespace CShape
end CShape
namespace CTensor
end CTensor
open Go Go.ChangeShapes Go.WideShapes Go.ChangeAt Go.RowKit Go.Deep
section
namespace CKind
open Plain CSat CShape CTensor CConv CDense CDepth
theorem valid_to (H W C e u0 u1 u2:Int) (b:Bool) (hb:zad H W C=b) (he:(if b=true then (0:Int) else 5)=e) (hv:(if b=true then (#[.int .i64 H,.int .i64 W,.int .i64 C]:Array Value) else #[.int .i64 0,.int .i64 0,.int .i64 0])=#[.int .i64 u0,.int .i64 u1,.int .i64 u2]) (w:World) :
  Calls Tryz.prog 79 #[.agg #[.int .i64 H,.int .i64 W,.int .i64 C]] w fun r w'=>r=.returned (.tuple #[.agg #[.int .i64 u0,.int .i64 u1,.int .i64 u2],.int .i64 e])∧Below w.heap.size w w':=by
 have HR:=hid (zac H W C b hb)
 have HB:Hid (Below w.heap.size w ((w.alloc (.cells #[.int .i64 H,.int .i64 W,.int .i64 C] 24)).alloc (.cells #[.int .i64 0,.int .i64 0,.int .i64 0] 24))):=hid (((Below.refl _ _).alloc (by first | exact le_refl _ | (simp;done) | (simp;omega) | omega) _).alloc (by first | exact le_refl _ | (simp;done) | (simp;omega) | omega) _)
 clear hb
 cases b
 all_goals
  simp only [if_true,if_false,Bool.false_eq_true] at he hv
  obtain⟨rfl,rfl,rfl⟩:=three_inj hv
  subst he
  clear hv
  go_enter Tryz.func79,Tryz.ntmps79
  go_wp2_with (go_at_call 24;(with_reducible refine (HR.out _).mono ?_);rintro e1 w1 ⟨rfl,hb⟩;obtain⟨hcc,hff⟩:=Kit.bcell hb;have hz1:w.heap.size+1 < w1.heap.size:=(by have:=hb.size;simp at this;omega);(replace HB:=hid (HB.out.trans (hb.mono HB.out.size)));clear hb)
 ·refine bodyPost_ret (Kit.zaa rfl _ _ (w.heap.size+1) 0 [.int .i64 0,.int .i64 0,.int .i64 0] _ rfl (Kit.zaq (by go_cell) (by go_cell) (by go_cell)) Tryz.underlying24 rfl (by kernel_rfl)) rfl ?_
  exact⟨rfl,((HB.out.setCell (p:=⟨w.heap.size+1,0,none⟩) (Nat.le_succ _) _).setCell (p:=⟨w.heap.size+1,1,none⟩) (Nat.le_succ _) _).setCell (p:=⟨w.heap.size+1,2,none⟩) (Nat.le_succ _) _⟩
 ·refine bodyPost_ret (Kit.zaa rfl _ _ (w.heap.size+1) 0 [.int .i64 H,.int .i64 W,.int .i64 C] _ rfl (Kit.zaq (by go_cell) (by go_cell) (by go_cell)) Tryz.underlying24 rfl (by kernel_rfl)) rfl ?_
  exact⟨rfl,((HB.out.setCell (p:=⟨w.heap.size+1,0,none⟩) (Nat.le_succ _) _).setCell (p:=⟨w.heap.size+1,1,none⟩) (Nat.le_succ _) _).setCell (p:=⟨w.heap.size+1,2,none⟩) (Nat.le_succ _) _⟩
theorem shape_in {H W C:Int} (h:zad H W C=true):1≤H∧H≤16∧1≤W∧W≤16:=by
 obtain⟨a1,a2,a3,a4,_,_,_⟩:=zab h
 exact⟨a1,a2,a3,a4⟩
theorem widened_to (H W C P e u0 u1 u2:Int) (he:(if zad H W C=false then (5:Int) else if P < 0∨4 < P then 2 else if zad (H+2 * P) (W+2 * P) C=false then 5 else 0)=e) (hv:(if e≠0 then (#[.int .i64 0,.int .i64 0,.int .i64 0]:Array Value) else #[.int .i64 (H+2 * P),.int .i64 (W+2 * P),.int .i64 C])=#[.int .i64 u0,.int .i64 u1,.int .i64 u2]) (w:World) :
  Calls Tryz.prog 80 #[.agg #[.int .i64 H,.int .i64 W,.int .i64 C],.int .i64 P] w fun r w'=>r=.returned (.tuple #[.agg #[.int .i64 u0,.int .i64 u1,.int .i64 u2],.int .i64 e])∧Below w.heap.size w w':=by
 have HB:Hid (Below w.heap.size w ((w.alloc (.cells #[.int .i64 H,.int .i64 W,.int .i64 C] 24)).alloc (.cells #[.int .i64 0,.int .i64 0,.int .i64 0] 24))):=hid (((Below.refl _ _).alloc (by first | exact le_refl _ | (simp;done) | (simp;omega) | omega) _).alloc (by first | exact le_refl _ | (simp;done) | (simp;omega) | omega) _)
 cases hs:zad H W C
 ·have HR:=hid (zac H W C false hs)
  rw [if_pos hs] at he
  subst he
  rw [if_pos (by decide)] at hv
  obtain⟨rfl,rfl,rfl⟩:=three_inj hv
  clear hv hs
  go_enter Tryz.func80,Tryz.ntmps80
  go_wp2_with (go_at_call 24;(with_reducible refine (HR.out _).mono ?_);rintro e1 w1 ⟨rfl,hb⟩;obtain⟨hcc,hff⟩:=Kit.bcell hb;have hz1:w.heap.size+1 < w1.heap.size:=(by have:=hb.size;simp at this;omega);(replace HB:=hid (HB.out.trans (hb.mono HB.out.size)));clear hb)
  refine bodyPost_ret (Kit.zaa rfl _ _ (w.heap.size+1) 0 [.int .i64 0,.int .i64 0,.int .i64 0] _ rfl (Kit.zaq (by go_cell) (by go_cell) (by go_cell)) Tryz.underlying24 rfl (by kernel_rfl)) rfl ?_
  exact⟨rfl,((HB.out.setCell (p:=⟨w.heap.size+1,0,none⟩) (Nat.le_succ _) _).setCell (p:=⟨w.heap.size+1,1,none⟩) (Nat.le_succ _) _).setCell (p:=⟨w.heap.size+1,2,none⟩) (Nat.le_succ _) _⟩
 ·have HR:=hid (zac H W C true hs)
  obtain⟨a1,a2,a3,a4⟩:=shape_in hs
  rw [if_neg (by simp [hs])] at he
  clear hs
  by_cases hp:P < 0∨4 < P
  ·rw [if_pos hp] at he
   subst he
   rw [if_pos (by decide)] at hv
   obtain⟨rfl,rfl,rfl⟩:=three_inj hv
   clear hv a1 a2 a3 a4
   rcases (show P < 0∨(¬ P < 0∧4 < P) by omega) with hq | ⟨hq,hq2⟩
   all_goals
    clear hp
    go_enter Tryz.func80,Tryz.ntmps80
    go_wp2_with (go_at_call 24;(with_reducible refine (HR.out _).mono ?_);rintro e1 w1 ⟨rfl,hb⟩;obtain⟨hcc,hff⟩:=Kit.bcell hb;have hz1:w.heap.size+1 < w1.heap.size:=(by have:=hb.size;simp at this;omega);(replace HB:=hid (HB.out.trans (hb.mono HB.out.size)));clear hb)
    refine bodyPost_ret (Kit.zaa rfl _ _ (w.heap.size+1) 0 [.int .i64 0,.int .i64 0,.int .i64 0] _ rfl (Kit.zaq (by go_cell) (by go_cell) (by go_cell)) Tryz.underlying24 rfl (by kernel_rfl)) rfl ?_
    exact⟨rfl,((HB.out.setCell (p:=⟨w.heap.size+1,0,none⟩) (Nat.le_succ _) _).setCell (p:=⟨w.heap.size+1,1,none⟩) (Nat.le_succ _) _).setCell (p:=⟨w.heap.size+1,2,none⟩) (Nat.le_succ _) _⟩
  ·rw [if_neg hp] at he
   have p1:¬ P < 0:=by omega
   have p2:¬ 4 < P:=by omega
   have i1:IntKind.i64.wrap (2 * P)=2 * P:=IntWalk.i64_in _ (by omega)
   have i2:IntKind.i64.wrap (H+2 * P)=H+2 * P:=IntWalk.i64_in _ (by omega)
   have i3:IntKind.i64.wrap (W+2 * P)=W+2 * P:=IntWalk.i64_in _ (by omega)
   clear hp a1 a2 a3 a4
   have hva:(if zad (H+2 * P) (W+2 * P) C=true then (0:Int) else 5)=e:=by
    rw [← he];cases zad (H+2 * P) (W+2 * P) C <;> rfl
   have hvv:(if zad (H+2 * P) (W+2 * P) C=true then (#[.int .i64 (H+2 * P),.int .i64 (W+2 * P),.int .i64 C]:Array Value) else #[.int .i64 0,.int .i64 0,.int .i64 0])=#[.int .i64 u0,.int .i64 u1,.int .i64 u2]:=by
    rw [← hv, ← he];cases zad (H+2 * P) (W+2 * P) C <;> simp
   have HV:=hid (valid_to (H+2 * P) (W+2 * P) C e u0 u1 u2 _ rfl hva hvv)
   clear he hv hva hvv
   go_enter Tryz.func80,Tryz.ntmps80
   go_wp2_with (first
    | (go_at_call 24;(with_reducible refine (HR.out _).mono ?_);rintro e1 w1 ⟨rfl,hb⟩;obtain⟨hcc,hff⟩:=Kit.bcell hb;have hz1:w.heap.size+1 < w1.heap.size:=(by have:=hb.size;simp at this;omega);(replace HB:=hid (HB.out.trans (hb.mono HB.out.size)));clear hb)
    | (go_at_call 79;(with_reducible refine (HV.out _).mono ?_);rintro e1 w2 ⟨rfl,hb⟩;obtain⟨hcd,hfd⟩:=Kit.bcell hb;have hz2:w.heap.size+1 < w2.heap.size:=(Nat.lt_of_lt_of_le hz1 hb.size);(replace HB:=hid (HB.out.trans (hb.mono HB.out.size)));clear hb))
   refine bodyPost_ret (Kit.zaa rfl _ _ (w.heap.size+1) 0 [.int .i64 u0,.int .i64 u1,.int .i64 u2] _ rfl (Kit.zaq (by go_cell) (by go_cell) (by go_cell)) Tryz.underlying24 rfl (by kernel_rfl)) rfl ?_
   exact⟨rfl,((HB.out.setCell (p:=⟨w.heap.size+1,0,none⟩) (Nat.le_succ _) _).setCell (p:=⟨w.heap.size+1,1,none⟩) (Nat.le_succ _) _).setCell (p:=⟨w.heap.size+1,2,none⟩) (Nat.le_succ _) _⟩
end CKind
end
section
namespace CRun
open Plain CSat CShape CTensor CConv CKind CFix
def Mem (x:Nd) (A B:Option Addr) (zs ys ws bs:List Int) (w:World):Prop :=
 Kit.Rd w w.heap.size A (I8s zs)∧Kit.Rd w w.heap.size B (I8s ys)∧Kit.Rd w w.heap.size x.WA (I8s ws)∧Kit.Rd w w.heap.size x.BA (I32v bs)∧NamesIn w
theorem Mem.grown {x:Nd} {A B:Option Addr} {zs ys ws bs:List Int} {w w':World} (h:Mem x A B zs ys ws bs w) (hb:Below w.heap.size w w'):Mem x A B zs ys ws bs w' :=
 ⟨(h.1.below hb).more hb.size,(h.2.1.below hb).more hb.size,(h.2.2.1.below hb).more hb.size,(h.2.2.2.1.below hb).more hb.size,h.2.2.2.2.grown hb⟩
structure NIn (x:Nd) (ws bs:List Int):Prop where
 hws:ws.length=x.nW
 hwc:x.nW≤x.cW
 hwm:x.cW≤maxLen
 hwb:I8b ws
 hbs:bs.length=x.nB
 hb32:∀ q, -2147483648≤bs.getD q 0∧bs.getD q 0≤2147483647
 z1 : -128≤x.Z
 z2:x.Z≤127
 small:x.Small
 hm:(-2147483648≤x.m1∧x.m1≤2147483647)∧(-128≤x.z1∧x.z1≤127)∧(-2147483648≤x.m2∧x.m2≤2147483647)∧(-128≤x.z2∧x.z2≤127)
def Good (x:Nd) (H W C H2 W2 C2:Int) (r:Res):Prop :=
 r.xs.length=r.m∧r.m≤1000000∧(r.er≠0→r=Res.bad r.er) ∧
 (r.er=0→x.shE H W C H2 W2 C2=0∧x.shV H W C H2 W2 C2=#[.int .i64 r.X,.int .i64 r.Y,.int .i64 r.U]∧tensB r.X r.Y r.U r.m=true)
theorem Good.bad (x:Nd) (H W C H2 W2 C2 e:Int) (h:e≠0):Good x H W C H2 W2 C2 (Res.bad e):=⟨rfl,Nat.zero_le _,fun _=>rfl,fun h0=>absurd h0 h⟩
theorem tens_of {H W C:Int} {n:Nat} (hs:zad H W C=true) (hn:(n:Int)=H * W * C):tensB H W C n=true:=by simp [tensB,hs,hn]
theorem zcr {H W C:Int} {n:Nat} (ht:tensB H W C n=true):zad H W C=true:=by simp [tensB] at ht;exact ht.1
theorem tens_num {H W C:Int} {n:Nat} (ht:tensB H W C n=true):(n:Int)=H * W * C:=by simp [tensB] at ht;exact ht.2
theorem wrap32_in (a:Int) : -2147483648≤IntKind.i32.wrap a∧IntKind.i32.wrap a≤2147483647:=by rw [IntKind.wrap_i32];omega
theorem check_ok {x:Nd} (h:x.checkZ=0):(1≤x.kd∧x.kd≤9)∧(zbv x.kd=true→za0 x.m1 x.s1=true)∧(x.kd=6→za0 x.m2 x.s2=true):=by
 unfold Nd.checkZ at h
 split at h
 ·cases h
 rename_i h1
 split at h
 ·cases h
 split at h
 ·cases h
 rename_i h3
 refine⟨by omega,fun hs=>?_,fun hk=>?_⟩
 ·cases hr:za0 x.m1 x.s1
  ·exact absurd (by simp [hs,hr]) h3
  ·rfl
 ·cases hr:za0 x.m2 x.s2
  ·exact absurd (by simp [hk,hr]) h3
  ·rfl
end CRun
end
section
namespace CRun
open Plain CSat CShape CTensor CConv CKind
theorem set4_alloc {g:Nat} {w w':World} (h:Below w.heap.size w w') (hg:w.heap.size≤g) (a b c d:Value) (o:Obj) :
  Below w.heap.size w (((((w'.setCell ⟨g,0,none⟩ a).setCell ⟨g,1,none⟩ b).setCell ⟨g,2,none⟩ c).setCell ⟨g,3,none⟩ d).alloc o):=by
 have h4:=(((h.setCell (p:=⟨g,0,none⟩) hg a).setCell (p:=⟨g,1,none⟩) hg b).setCell (p:=⟨g,2,none⟩) hg c).setCell (p:=⟨g,3,none⟩) hg d
 exact h4.alloc h4.size o
theorem csum_lane (x:Nd) (hk:x.kd=1) (hf:(decide (x.K=3) && decide (x.S=1))=true) (H W C:Int) (A:Option Addr) (n c:Nat) (r:Res) (w:World) (hC:∀ w1:World,Below w.heap.size w w1→Calls Tryz.prog 125 #[.agg #[.int .i64 H,.int .i64 W,.int .i64 C,.slice A n c],.agg x.val] w1 (MAcc w1 r)) :
  Calls Tryz.prog 96 #[.agg x.val,.agg #[.int .i64 H,.int .i64 W,.int .i64 C,.slice A n c]] w (MAcc w r):=by
 have HC:=hid hC
 have HF:Hid (∀ w,Calls Tryz.prog 124 #[.agg x.val] w fun e w'=>e=.returned (.bool true)∧Below w.heap.size w w'):=hid (fun w=>CLane.fits_to (.int .i64 x.kd) (.int .i64 x.na) (.int .i64 x.nb) (.int .i8 x.Y) (.int .i32 x.m1) (.int .i64 x.s1) (.int .i8 x.z1) (.int .i32 x.m2) (.int .i64 x.s2) (.int .i8 x.z2) (.int .i8 x.lo) (.int .i8 x.hi) x.K x.S x.P x.O x.Z x.WA x.BA x.nW x.cW x.nB x.cB true hf w)
 clear hC hf
 have HK:=hid hk
 clear hk
 have HE:=hid (ent1 x H W C A n c 83 w)
 go_enter Tryz.func96,Tryz.ntmps96
 go_upto_region 1 with fail
 obtain⟨W0,hW0,TN,HB,hz,TA,FR⟩:=HE.out
 rw [← hW0]
 clear hW0 HE
 obtain⟨k00,k01,k02,k03⟩:=TA.out
 obtain⟨⟨z0,z1,z2,z3⟩,f0,f1,f2,f3⟩:=FR.out
 have q0:=nd_k0 TN.out HK.out
 go_wp2_with (first
  | (refine zak rfl _ rfl w.heap.size x rfl TN.out ?_)
  | (go_at_call 124;(with_reducible refine (HF.out _).mono ?_);rintro e1 w1 ⟨rfl,hb⟩;(replace TN:=hid (TN.out.below (by omega) hb));(replace TA:=hid (TA.out.below (by omega) hb));(replace FR:=hid (FR.out.below hz hb));clear k00 k01 k02 k03 z0 z1 z2 z3 f0 f1 f2 f3;obtain⟨k00,k01,k02,k03⟩:=TA.out;obtain⟨⟨z0,z1,z2,z3⟩,f0,f1,f2,f3⟩:=FR.out;have hzo:=hz;(replace hz:w.heap.size+2 < w1.heap.size:=Nat.lt_of_lt_of_le hz hb.size);(replace HB:=hid (HB.out.trans (hb.mono HB.out.size)));clear hb hzo)
  | (go_at_call 125;(with_reducible refine (HC.out _ HB.out).mono ?_);rintro e1 w1 ⟨v,rfl,ho,hb⟩;(replace TN:=hid (TN.out.below (by omega) hb));(replace TA:=hid (TA.out.below (by omega) hb));(replace FR:=hid (FR.out.below hz hb));clear k00 k01 k02 k03 z0 z1 z2 z3 f0 f1 f2 f3;obtain⟨k00,k01,k02,k03⟩:=TA.out;obtain⟨⟨z0,z1,z2,z3⟩,f0,f1,f2,f3⟩:=FR.out;have hzo:=hz;(replace hz:w.heap.size+2 < w1.heap.size:=Nat.lt_of_lt_of_le hz hb.size);have HO:=hid (Kit.zah ho (show w.heap.size+2+1≤_ from hzo));have HZO:=hid (lt_succ_self (w.heap.size+2));obtain⟨A2,c2,rfl, -, -, -⟩:=Kit.zam ho;(replace HB:=hid (HB.out.trans (hb.mono HB.out.size)));clear ho hb))
 refine bodyPost_ret (Kit.zaa rfl _ _ (w.heap.size+2) 0 [.int .i64 r.X,.int .i64 r.Y,.int .i64 r.U,.slice A2 r.m c2] _ rfl (zbg (by go_cell) (by go_cell) (by go_cell) (by go_cell)) Tryz.underlying83 rfl (by kernel_rfl)) rfl ?_
 refine⟨_,rfl,Kit.zah (za3 HO.out HZO.out) (by omega),?_⟩
 exact (((HB.out.setCell (p:=⟨w.heap.size+2,0,none⟩) (Nat.le_add_right _ _) _).setCell (p:=⟨w.heap.size+2,1,none⟩) (Nat.le_add_right _ _) _).setCell (p:=⟨w.heap.size+2,2,none⟩) (Nat.le_add_right _ _) _).setCell (p:=⟨w.heap.size+2,3,none⟩) (Nat.le_add_right _ _) _
theorem csum_lower (x:Nd) (hk:x.kd=1) (hf:(decide (x.K=3) && decide (x.S=1))=false) (H W C:Int) (A:Option Addr) (n c:Nat) (r:Res) (w:World) (hC:∀ w1:World,Below w.heap.size w w1→Calls Tryz.prog 126 #[.agg #[.int .i64 H,.int .i64 W,.int .i64 C,.slice A n c],.agg x.val] w1 (MAcc w1 r)) :
  Calls Tryz.prog 96 #[.agg x.val,.agg #[.int .i64 H,.int .i64 W,.int .i64 C,.slice A n c]] w (MAcc w r):=by
 have HC:=hid hC
 have HF:Hid (∀ w,Calls Tryz.prog 124 #[.agg x.val] w fun e w'=>e=.returned (.bool false)∧Below w.heap.size w w'):=hid (fun w=>CLane.fits_to (.int .i64 x.kd) (.int .i64 x.na) (.int .i64 x.nb) (.int .i8 x.Y) (.int .i32 x.m1) (.int .i64 x.s1) (.int .i8 x.z1) (.int .i32 x.m2) (.int .i64 x.s2) (.int .i8 x.z2) (.int .i8 x.lo) (.int .i8 x.hi) x.K x.S x.P x.O x.Z x.WA x.BA x.nW x.cW x.nB x.cB false hf w)
 clear hC hf
 have HK:=hid hk
 clear hk
 have HE:=hid (ent1 x H W C A n c 83 w)
 go_enter Tryz.func96,Tryz.ntmps96
 go_upto_region 1 with fail
 obtain⟨W0,hW0,TN,HB,hz,TA,FR⟩:=HE.out
 rw [← hW0]
 clear hW0 HE
 obtain⟨k00,k01,k02,k03⟩:=TA.out
 obtain⟨⟨z0,z1,z2,z3⟩,f0,f1,f2,f3⟩:=FR.out
 have q0:=nd_k0 TN.out HK.out
 go_wp2_with (first
  | (refine zak rfl _ rfl w.heap.size x rfl TN.out ?_)
  | (go_at_call 124;(with_reducible refine (HF.out _).mono ?_);rintro e1 w1 ⟨rfl,hb⟩;(replace TN:=hid (TN.out.below (by omega) hb));(replace TA:=hid (TA.out.below (by omega) hb));(replace FR:=hid (FR.out.below hz hb));clear k00 k01 k02 k03 z0 z1 z2 z3 f0 f1 f2 f3;obtain⟨k00,k01,k02,k03⟩:=TA.out;obtain⟨⟨z0,z1,z2,z3⟩,f0,f1,f2,f3⟩:=FR.out;have hzo:=hz;(replace hz:w.heap.size+2 < w1.heap.size:=Nat.lt_of_lt_of_le hz hb.size);(replace HB:=hid (HB.out.trans (hb.mono HB.out.size)));clear hb hzo)
  | (go_at_call 126;(with_reducible refine (HC.out _ HB.out).mono ?_);rintro e1 w1 ⟨v,rfl,ho,hb⟩;(replace TN:=hid (TN.out.below (by omega) hb));(replace TA:=hid (TA.out.below (by omega) hb));(replace FR:=hid (FR.out.below hz hb));clear k00 k01 k02 k03 z0 z1 z2 z3 f0 f1 f2 f3;obtain⟨k00,k01,k02,k03⟩:=TA.out;obtain⟨⟨z0,z1,z2,z3⟩,f0,f1,f2,f3⟩:=FR.out;have hzo:=hz;(replace hz:w.heap.size+2 < w1.heap.size:=Nat.lt_of_lt_of_le hz hb.size);have HO:=hid (Kit.zah ho (show w.heap.size+2+1≤_ from hzo));have HZO:=hid (lt_succ_self (w.heap.size+2));obtain⟨A2,c2,rfl, -, -, -⟩:=Kit.zam ho;(replace HB:=hid (HB.out.trans (hb.mono HB.out.size)));clear ho hb))
 refine bodyPost_ret (Kit.zaa rfl _ _ (w.heap.size+2) 0 [.int .i64 r.X,.int .i64 r.Y,.int .i64 r.U,.slice A2 r.m c2] _ rfl (zbg (by go_cell) (by go_cell) (by go_cell) (by go_cell)) Tryz.underlying83 rfl (by kernel_rfl)) rfl ?_
 refine⟨_,rfl,Kit.zah (za3 HO.out HZO.out) (by omega),?_⟩
 exact (((HB.out.setCell (p:=⟨w.heap.size+2,0,none⟩) (Nat.le_add_right _ _) _).setCell (p:=⟨w.heap.size+2,1,none⟩) (Nat.le_add_right _ _) _).setCell (p:=⟨w.heap.size+2,2,none⟩) (Nat.le_add_right _ _) _).setCell (p:=⟨w.heap.size+2,3,none⟩) (Nat.le_add_right _ _) _
theorem csum_depth (x:Nd) (hk:x.kd=2) (H W C:Int) (A:Option Addr) (n c:Nat) (r:Res) (w:World) (hC:∀ w1:World,Below w.heap.size w w1→Calls Tryz.prog 127 #[.agg #[.int .i64 H,.int .i64 W,.int .i64 C,.slice A n c],.agg x.val] w1 (MAcc w1 r)) :
  Calls Tryz.prog 96 #[.agg x.val,.agg #[.int .i64 H,.int .i64 W,.int .i64 C,.slice A n c]] w (MAcc w r):=by
 have HC:=hid hC
 clear hC
 have HK:=hid hk
 clear hk
 have HE:=hid (ent1 x H W C A n c 83 w)
 go_enter Tryz.func96,Tryz.ntmps96
 go_upto_region 1 with fail
 obtain⟨W0,hW0,TN,HB,hz,TA,FR⟩:=HE.out
 rw [← hW0]
 clear hW0 HE
 obtain⟨k00,k01,k02,k03⟩:=TA.out
 obtain⟨⟨z0,z1,z2,z3⟩,f0,f1,f2,f3⟩:=FR.out
 have q0:=nd_k0 TN.out HK.out
 go_wp2_with (first
  | (refine zak rfl _ rfl w.heap.size x rfl TN.out ?_)
  | (go_at_call 127;(with_reducible refine (HC.out _ HB.out).mono ?_);rintro e1 w1 ⟨v,rfl,ho,hb⟩;(replace TN:=hid (TN.out.below (by omega) hb));(replace TA:=hid (TA.out.below (by omega) hb));(replace FR:=hid (FR.out.below hz hb));clear k00 k01 k02 k03 z0 z1 z2 z3 f0 f1 f2 f3;obtain⟨k00,k01,k02,k03⟩:=TA.out;obtain⟨⟨z0,z1,z2,z3⟩,f0,f1,f2,f3⟩:=FR.out;have hzo:=hz;(replace hz:w.heap.size+2 < w1.heap.size:=Nat.lt_of_lt_of_le hz hb.size);have HO:=hid (Kit.zah ho (show w.heap.size+2+1≤_ from hzo));have HZO:=hid (lt_succ_self (w.heap.size+2));obtain⟨A2,c2,rfl, -, -, -⟩:=Kit.zam ho;(replace HB:=hid (HB.out.trans (hb.mono HB.out.size)));clear ho hb))
 refine bodyPost_ret (Kit.zaa rfl _ _ (w.heap.size+2) 0 [.int .i64 r.X,.int .i64 r.Y,.int .i64 r.U,.slice A2 r.m c2] _ rfl (zbg (by go_cell) (by go_cell) (by go_cell) (by go_cell)) Tryz.underlying83 rfl (by kernel_rfl)) rfl ?_
 refine⟨_,rfl,Kit.zah (za3 HO.out HZO.out) (by omega),?_⟩
 exact (((HB.out.setCell (p:=⟨w.heap.size+2,0,none⟩) (Nat.le_add_right _ _) _).setCell (p:=⟨w.heap.size+2,1,none⟩) (Nat.le_add_right _ _) _).setCell (p:=⟨w.heap.size+2,2,none⟩) (Nat.le_add_right _ _) _).setCell (p:=⟨w.heap.size+2,3,none⟩) (Nat.le_add_right _ _) _
theorem csum_dense (x:Nd) (hk:x.kd=3) (H W C:Int) (A:Option Addr) (n c:Nat) (r:Res) (w:World) (hC:∀ w1:World,Below w.heap.size w w1→Calls Tryz.prog 128 #[.agg #[.int .i64 H,.int .i64 W,.int .i64 C,.slice A n c],.agg x.val] w1 (MAcc w1 r)) :
  Calls Tryz.prog 96 #[.agg x.val,.agg #[.int .i64 H,.int .i64 W,.int .i64 C,.slice A n c]] w (MAcc w r):=by
 have HC:=hid hC
 clear hC
 have HK:=hid hk
 clear hk
 have HE:=hid (ent1 x H W C A n c 83 w)
 go_enter Tryz.func96,Tryz.ntmps96
 go_upto_region 1 with fail
 obtain⟨W0,hW0,TN,HB,hz,TA,FR⟩:=HE.out
 rw [← hW0]
 clear hW0 HE
 obtain⟨k00,k01,k02,k03⟩:=TA.out
 obtain⟨⟨z0,z1,z2,z3⟩,f0,f1,f2,f3⟩:=FR.out
 have q0:=nd_k0 TN.out HK.out
 go_wp2_with (first
  | (refine zak rfl _ rfl w.heap.size x rfl TN.out ?_)
  | (go_at_call 128;(with_reducible refine (HC.out _ HB.out).mono ?_);rintro e1 w1 ⟨v,rfl,ho,hb⟩;(replace TN:=hid (TN.out.below (by omega) hb));(replace TA:=hid (TA.out.below (by omega) hb));(replace FR:=hid (FR.out.below hz hb));clear k00 k01 k02 k03 z0 z1 z2 z3 f0 f1 f2 f3;obtain⟨k00,k01,k02,k03⟩:=TA.out;obtain⟨⟨z0,z1,z2,z3⟩,f0,f1,f2,f3⟩:=FR.out;have hzo:=hz;(replace hz:w.heap.size+2 < w1.heap.size:=Nat.lt_of_lt_of_le hz hb.size);have HO:=hid (Kit.zah ho (show w.heap.size+2+1≤_ from hzo));have HZO:=hid (lt_succ_self (w.heap.size+2));obtain⟨A2,c2,rfl, -, -, -⟩:=Kit.zam ho;(replace HB:=hid (HB.out.trans (hb.mono HB.out.size)));clear ho hb))
 refine bodyPost_ret (Kit.zaa rfl _ _ (w.heap.size+2) 0 [.int .i64 r.X,.int .i64 r.Y,.int .i64 r.U,.slice A2 r.m c2] _ rfl (zbg (by go_cell) (by go_cell) (by go_cell) (by go_cell)) Tryz.underlying83 rfl (by kernel_rfl)) rfl ?_
 refine⟨_,rfl,Kit.zah (za3 HO.out HZO.out) (by omega),?_⟩
 exact (((HB.out.setCell (p:=⟨w.heap.size+2,0,none⟩) (Nat.le_add_right _ _) _).setCell (p:=⟨w.heap.size+2,1,none⟩) (Nat.le_add_right _ _) _).setCell (p:=⟨w.heap.size+2,2,none⟩) (Nat.le_add_right _ _) _).setCell (p:=⟨w.heap.size+2,3,none⟩) (Nat.le_add_right _ _) _
theorem csum_no (x:Nd) (hk:¬ x.kd=1∧¬ x.kd=2∧¬ x.kd=3) (H W C:Int) (A:Option Addr) (n c:Nat) (w:World):Calls Tryz.prog 96 #[.agg x.val,.agg #[.int .i64 H,.int .i64 W,.int .i64 C,.slice A n c]] w (MAcc w (Res.bad 6)):=by
 have HK:=hid hk
 clear hk
 have HE:=hid (ent1 x H W C A n c 83 w)
 go_enter Tryz.func96,Tryz.ntmps96
 go_upto_region 1 with fail
 obtain⟨W0,hW0,TN,HB,hz,TA,FR⟩:=HE.out
 rw [← hW0]
 clear hW0 HE
 obtain⟨k00,k01,k02,k03⟩:=TA.out
 obtain⟨⟨z0,z1,z2,z3⟩,f0,f1,f2,f3⟩:=FR.out
 have q0:=TN.out.at 0 (.int .i64 x.kd) rfl
 have hk:=HK.out
 have e1:(x.kd == 1)=false:=by simp;omega
 have g1:¬ x.kd=1:=by omega
 have e2:(x.kd == 2)=false:=by simp;omega
 have g2:¬ x.kd=2:=by omega
 have e3:(x.kd == 3)=false:=by simp;omega
 have g3:¬ x.kd=3:=by omega
 go_wp2_with fail
 refine bodyPost_ret (Kit.zaa rfl _ _ (w.heap.size+2) 0 [.int .i64 0,.int .i64 0,.int .i64 0,.slice none 0 0] _ rfl (zbg (by go_cell) (by go_cell) (by go_cell) (by go_cell)) Tryz.underlying83 rfl (by kernel_rfl)) rfl ?_
 refine⟨_,rfl,own_none _ _,?_⟩
 exact (((HB.out.setCell (p:=⟨w.heap.size+2,0,none⟩) (Nat.le_add_right _ _) _).setCell (p:=⟨w.heap.size+2,1,none⟩) (Nat.le_add_right _ _) _).setCell (p:=⟨w.heap.size+2,2,none⟩) (Nat.le_add_right _ _) _).setCell (p:=⟨w.heap.size+2,3,none⟩) (Nat.le_add_right _ _) _
theorem csummed_err (x:Nd) (H W C:Int) (A:Option Addr) (n c:Nat) (r:Res) (h0:r.er≠0) (w:World) (hS:∀ w1:World,Below w.heap.size w w1→Calls Tryz.prog 96 #[.agg x.val,.agg #[.int .i64 H,.int .i64 W,.int .i64 C,.slice A n c]] w1 (MAcc w1 r)):Calls Tryz.prog 50 #[.agg x.val,.agg #[.int .i64 H,.int .i64 W,.int .i64 C,.slice A n c]] w (MTen w (Res.bad r.er)):=by
 have HC:=hid hS
 have d1:(r.er != 0)=true:=by simpa using h0
 have d2:(r.er == 0)=false:=by simpa using h0
 clear hS
 have HE:=hid (ent1 x H W C A n c 27 w)
 go_enter Tryz.func50,Tryz.ntmps50
 go_upto_region 1 with fail
 obtain⟨W0,hW0,TN,HB,hz,TA,FR⟩:=HE.out
 rw [← hW0]
 clear hW0 HE
 obtain⟨k00,k01,k02,k03⟩:=TA.out
 obtain⟨⟨z0,z1,z2,z3⟩,f0,f1,f2,f3⟩:=FR.out
 go_wp2_with (first
  | (refine zak rfl _ rfl w.heap.size x rfl TN.out ?_)
  | (go_at_call 96;(with_reducible refine (HC.out _ HB.out).mono ?_);rintro e1 w1 ⟨v,rfl,ho,hb⟩;(replace TN:=hid (TN.out.below (by omega) hb));(replace TA:=hid (TA.out.below (by omega) hb));(replace FR:=hid (FR.out.below hz hb));clear k00 k01 k02 k03 z0 z1 z2 z3 f0 f1 f2 f3;obtain⟨k00,k01,k02,k03⟩:=TA.out;obtain⟨⟨z0,z1,z2,z3⟩,f0,f1,f2,f3⟩:=FR.out;have hzo:=hz;(replace hz:w.heap.size+2 < w1.heap.size:=Nat.lt_of_lt_of_le hz hb.size);have HO1:=hid ho;obtain⟨A2,c2,rfl, -, -,hr2⟩:=Kit.zam ho;have HR2:=hid hr2;(replace HB:=hid (HB.out.trans (hb.mono HB.out.size)));clear ho hb hzo hr2))
 refine bodyPost_ret (Kit.zaa rfl _ _ (w.heap.size+2) 0 [.int .i64 0,.int .i64 0,.int .i64 0,.slice none 0 0] _ rfl (zbg (by go_cell) (by go_cell) (by go_cell) (by go_cell)) Tryz.underlying27 rfl (by kernel_rfl)) rfl ?_
 refine⟨_,rfl,own_none _ _,?_⟩
 exact set4_alloc HB.out (by omega) _ _ _ _ _
theorem csummed_ok (x:Nd) (H W C:Int) (A:Option Addr) (n c:Nat) (r q:Res) (h0:r.er=0) (w:World) (hS:∀ w1:World,Below w.heap.size w w1→Calls Tryz.prog 96 #[.agg x.val,.agg #[.int .i64 H,.int .i64 W,.int .i64 C,.slice A n c]] w1 (MAcc w1 r)) (hP:∀ (w1:World) (A2:Option Addr) (c2:Nat),Below w.heap.size w w1→Kit.Rd w1 w1.heap.size A2 (I32v r.xs)→Calls Tryz.prog 97 #[.agg #[.int .i64 r.X,.int .i64 r.Y,.int .i64 r.U,.slice A2 r.m c2],.agg x.val] w1 (MTen w1 q)):Calls Tryz.prog 50 #[.agg x.val,.agg #[.int .i64 H,.int .i64 W,.int .i64 C,.slice A n c]] w (MTen w q):=by
 have HC:=hid hS
 have HP:=hid hP
 clear hS hP
 have HE:=hid (ent1 x H W C A n c 27 w)
 go_enter Tryz.func50,Tryz.ntmps50
 go_upto_region 1 with fail
 obtain⟨W0,hW0,TN,HB,hz,TA,FR⟩:=HE.out
 rw [← hW0]
 clear hW0 HE
 obtain⟨k00,k01,k02,k03⟩:=TA.out
 obtain⟨⟨z0,z1,z2,z3⟩,f0,f1,f2,f3⟩:=FR.out
 have d1:(r.er != 0)=false:=by simpa using h0
 have d2:(r.er == 0)=true:=by simpa using h0
 go_wp2_with (first
  | (refine zak rfl _ rfl w.heap.size x rfl TN.out ?_)
  | (go_at_call 96;(with_reducible refine (HC.out _ HB.out).mono ?_);rintro e1 w1 ⟨v,rfl,ho,hb⟩;(replace TN:=hid (TN.out.below (by omega) hb));(replace TA:=hid (TA.out.below (by omega) hb));(replace FR:=hid (FR.out.below hz hb));clear k00 k01 k02 k03 z0 z1 z2 z3 f0 f1 f2 f3;obtain⟨k00,k01,k02,k03⟩:=TA.out;obtain⟨⟨z0,z1,z2,z3⟩,f0,f1,f2,f3⟩:=FR.out;have hzo:=hz;(replace hz:w.heap.size+2 < w1.heap.size:=Nat.lt_of_lt_of_le hz hb.size);have HO1:=hid ho;obtain⟨A2,c2,rfl, -, -,hr2⟩:=Kit.zam ho;have HR2:=hid hr2;(replace HB:=hid (HB.out.trans (hb.mono HB.out.size)));clear ho hb hzo hr2)
  | (refine zak rfl _ rfl w.heap.size x rfl (TN.out.below (show w.heap.size < w1.heap.size by omega) ((Below.refl w1.heap.size w1).alloc (le_refl _) _)) ?_)
  | (go_at_call 97;(with_reducible refine (HP.out _ A2 c2 (HB.out.alloc HB.out.size _) ((HR2.out.alloc (le_refl _) _).more (by simp))).mono ?_);rintro e1 w2 ⟨v,rfl,ho,hb2⟩;have hb:Below w1.heap.size w1 w2:=((Below.refl _ _).alloc (le_refl _) _).trans (hb2.mono (by simp));have hzl:w.heap.size+2+1≤w1.heap.size:=hz;(replace TN:=hid (TN.out.below (by omega) hb));(replace TA:=hid (TA.out.below (by omega) hb));(replace FR:=hid (FR.out.below hz hb));clear k00 k01 k02 k03 z0 z1 z2 z3 f0 f1 f2 f3;obtain⟨k00,k01,k02,k03⟩:=TA.out;obtain⟨⟨z0,z1,z2,z3⟩,f0,f1,f2,f3⟩:=FR.out;have hzo:=hz;(replace hz:w.heap.size+2 < w2.heap.size:=Nat.lt_of_lt_of_le hz hb.size);have HO:=hid (Kit.zah ho (show w.heap.size+2+1≤_ from by simp;omega));have HZO:=hid (lt_succ_self (w.heap.size+2));obtain⟨A3,c3,rfl, -, -, -⟩:=Kit.zam ho;(replace HB:=hid (HB.out.trans (hb.mono HB.out.size)));clear ho hb hb2 hzo))
 refine bodyPost_ret (Kit.zaa rfl _ _ (w.heap.size+2) 0 [.int .i64 q.X,.int .i64 q.Y,.int .i64 q.U,.slice A3 q.m c3] _ rfl (zbg (by go_cell) (by go_cell) (by go_cell) (by go_cell)) Tryz.underlying27 rfl (by kernel_rfl)) rfl ?_
 refine⟨_,rfl,Kit.zah (za3 HO.out HZO.out) (by omega),?_⟩
 exact (((HB.out.setCell (p:=⟨w.heap.size+2,0,none⟩) (Nat.le_add_right _ _) _).setCell (p:=⟨w.heap.size+2,1,none⟩) (Nat.le_add_right _ _) _).setCell (p:=⟨w.heap.size+2,2,none⟩) (Nat.le_add_right _ _) _).setCell (p:=⟨w.heap.size+2,3,none⟩) (Nat.le_add_right _ _) _
end CRun
end
end Go.Proofs.YtahekhpeomcfjaaGreatDoor
