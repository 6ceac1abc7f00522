/- -/
import Derived.Test.YtfgdfignoakkaaaGreatDoorGBT26
import Derived.Test.YtfgdfignoakkaaaGreatDoorGBT27
open Go.Lib (hid)
open Nat (le_refl lt_of_succ_lt lt_succ_self)
set_option linter.unusedVariables false
set_option linter.unusedSimpArgs false
set_option maxRecDepth 100000
set_option maxHeartbeats 16000000
namespace Go.Proofs.YtfgdfignoakkaaaGreatDoor
namespace CConv
end CConv
namespace CFix
end CFix
namespace CGraph
end CGraph
namespace CJoin
end CJoin
namespace CKind
end CKind
namespace CSat
end CSat
namespace CShape
end CShape
namespace CSpan
end CSpan
namespace CTensor
end CTensor
open Go Go.ChangeShapes Go.WideShapes Go.ChangeAt Go.RowKit Go.Deep
section
namespace CGuard
open Plain CSat CFix CShape CTensor CConv CSpan CKind CGraph CJoin
theorem results_2g {fn:Func} {a b:Tmp} (h:fn.results=#[.tmp a,.tmp b]) (tmps:Array Value) (P:Program) (w:World):(results fn tmps).run P w=.ok (.tuple #[tmps.getD a undef,tmps.getD b undef]) w:=by
 simp [results,h]
theorem zbb (l h:Int) (w:World):Calls Tryz.prog 130 #[.agg #[.int .i8 l,.int .i8 h]] w fun e w'=>e=.returned (.bool (decide (h < l)))∧Below w.heap.size w w':=by
 have HB0:=hid ((Below.refl w.heap.size w).alloc (le_refl _) (.cells #[.int .i8 l,.int .i8 h] 172))
 go_enter Tryz.func130,Tryz.ntmps130
 go_wp2_with fail
 go_ret
 exact⟨rfl,HB0.out⟩
theorem widn_to (l h m:Int) (w:World):Calls Tryz.prog 184 #[.int .i8 l,.int .i8 h,.int .i8 m] w fun e w'=>e=.returned (.tuple #[.int .i8 (min l m),.int .i8 (max h m)])∧w=w':=by
 have m1:=min_iteN l m
 have m2:=max_iteN h m
 go_enter Tryz.func184,Tryz.ntmps184
 go_wp2_with fail
 refine bodyPost_ret (results_2g rfl _ _ _) rfl ?_
 exact⟨rfl,rfl⟩
theorem lsR_lo (F:Nat→Int):∀ n,lsR F n=loF F n
 | 0=>rfl
 | k+1=>by
   unfold lsR loF
   by_cases hk:k=0
   ·rw [if_pos hk,if_pos hk,hk];omega
   ·rw [if_neg hk,if_neg hk,lsR_lo F k]
theorem grR_hi (F:Nat→Int):∀ n,grR F n=hiF F n
 | 0=>rfl
 | k+1=>by
   unfold grR hiF
   by_cases hk:k=0
   ·rw [if_pos hk,if_pos hk,hk];omega
   ·rw [if_neg hk,if_neg hk,grR_hi F k]
theorem fit_step (a b c d:Int):fitB (min a b) (max c d)=(fitB a c && (decide (-2147483648≤b) && decide (d≤2147483647))):=by
 unfold fitB
 rw [Bool.eq_iff_iff]
 simp only [Bool.and_eq_true,decide_eq_true_eq]
 omega
theorem hold_fit (P Q:Nat→Int):∀ n,holdF P Q (n+1)=fitB (loF P (n+1)) (hiF Q (n+1))
 | 0=>by simp [holdF,loF_one,hiF_one,fitB]
 | k+1=>by rw [show holdF P Q (k+1+1)=(holdF P Q (k+1) && (decide (-2147483648≤P (k+1)) && decide (Q (k+1)≤2147483647))) from rfl,hold_fit P Q k,loF_more P (Nat.succ_pos k),hiF_more Q (Nat.succ_pos k),fit_step]
def sgZ (x:Nd) (ws bs:List Int) (l h:Int):Int × Int × Int :=
 if 1≤x.nB∧x.nW % x.nB=0 then (if fitB (lsW ws bs x.nW x.nB l h x.Z (decide (0 < x.P))) (grW ws bs x.nW x.nB l h x.Z (decide (0 < x.P)))=true then (min (heldZ (c32 (lsW ws bs x.nW x.nB l h x.Z (decide (0 < x.P)))) x.m1 x.s1 x.z1 x.lo x.hi) (heldZ (c32 (grW ws bs x.nW x.nB l h x.Z (decide (0 < x.P)))) x.m1 x.s1 x.z1 x.lo x.hi),max (heldZ (c32 (lsW ws bs x.nW x.nB l h x.Z (decide (0 < x.P)))) x.m1 x.s1 x.z1 x.lo x.hi) (heldZ (c32 (grW ws bs x.nW x.nB l h x.Z (decide (0 < x.P)))) x.m1 x.s1 x.z1 x.lo x.hi),0) else (0,0,10)) else (min (heldZ (c32 (0)) x.m1 x.s1 x.z1 x.lo x.hi) (heldZ (c32 (0)) x.m1 x.s1 x.z1 x.lo x.hi),max (heldZ (c32 (0)) x.m1 x.s1 x.z1 x.lo x.hi) (heldZ (c32 (0)) x.m1 x.s1 x.z1 x.lo x.hi),0)
def AllAt (f:Bool) (X Y:Int) (w:World) (e:Ending) (w':World):Prop :=
 ∃ A n c P Q,e=.returned (.slice A n c)∧n≤20000∧Hid (Kit.Rd w' w'.heap.size A (pairV P Q n))∧Hid (holdF P Q n=f∧loF P n=X∧hiF Q n=Y)∧Below w.heap.size w w'
theorem all_any {w:World} (x:Nd) (l h:Int) (bd:(-128≤l∧l≤127)∧(-128≤h∧h≤127)) (ok:NBd x.Z x.Y x.m1 x.z1 x.m2 x.z2 x.lo x.hi) (ws bs:List Int) (hL:NdL w w.heap.size x ws bs) (hW2:x.nW≤20000) (hB2:x.nB≤20000):∃ X Y:Int,(fitB X Y=true→sgZ x ws bs l h=(min (heldZ (c32 (X)) x.m1 x.s1 x.z1 x.lo x.hi) (heldZ (c32 (Y)) x.m1 x.s1 x.z1 x.lo x.hi),max (heldZ (c32 (X)) x.m1 x.s1 x.z1 x.lo x.hi) (heldZ (c32 (Y)) x.m1 x.s1 x.z1 x.lo x.hi),0))∧(fitB X Y=false→sgZ x ws bs l h=(0,0,10))∧(-40000000000≤X∧X≤40000000000)∧(-40000000000≤Y∧Y≤40000000000) ∧
  ∀ wx,Below w.heap.size w wx→Calls Tryz.prog 151 #[.agg x.val,.int .i8 l,.int .i8 h] wx (AllAt (fitB X Y) X Y wx):=by
 by_cases hs:1≤x.nB∧x.nW % x.nB=0
 ·have hbdd:=fun o=>rowPQ_bd hL.iw hL.ib bd.1.1 bd.1.2 bd.2.1 bd.2.2 ok.1.1 ok.1.2 (decide (0 < x.P)) (each:=x.nW / x.nB) (Nat.le_trans (Nat.div_le_self _ _) (by omega)) o
  refine⟨lsW ws bs x.nW x.nB l h x.Z (decide (0 < x.P)),grW ws bs x.nW x.nB l h x.Z (decide (0 < x.P)),fun hf=>by unfold sgZ;rw [if_pos hs,if_pos hf],fun hf=>by unfold sgZ;rw [if_pos hs,if_neg (by rw [hf];decide)],lsR_bd (fun o=>(hbdd o).1) _ (by omega),grR_bd (fun o=>(hbdd o).2) _ (by omega),fun wx hb=>?_⟩
  refine (call_yes (.int .i64 x.kd) (.int .i64 x.na) (.int .i64 x.nb) x.K x.S x.P x.O x.Z x.Y x.WA x.BA x.nW x.cW x.nB x.cB x.m1 x.s1 x.z1 x.m2 x.s2 x.z2 x.lo x.hi ws bs hL.lw hL.lb hL.iw hL.ib hL.cw.1 hL.cw.2 l h bd.1.1 bd.1.2 bd.2.1 bd.2.2 ok.1.1 ok.1.2 (x.nW / x.nB) hs.1 (each_of_shared hs) (by omega) (by omega) (decide (0 < x.P)) rfl wx ((hL.rw.below hb).more hb.size) ((hL.rb.below hb).more hb.size)).mono ?_
  rintro e w' ⟨v,rfl,hown,hb'⟩
  obtain⟨A,c,rfl, -, -,hrd⟩:=Kit.za2 hown
  obtain⟨m,hm⟩:∃ m,x.nB=m+1:=⟨x.nB - 1,by omega⟩
  refine⟨A,x.nB,c,_,_,rfl,hB2,hid hrd,hid ⟨?_,?_,?_⟩,hb'⟩
  ·unfold lsW grW
   rw [lsR_lo,grR_hi,hm]
   exact hold_fit _ _ m
  ·exact (lsR_lo _ _).symm
  ·exact (grR_hi _ _).symm
 ·refine⟨0,0,fun _=>by unfold sgZ;rw [if_neg hs],fun hf=>absurd hf (by decide),by omega,by omega,fun wx hb=>?_⟩
  refine (call_no (.int .i64 x.kd) (.int .i64 x.na) (.int .i64 x.nb) x.K x.S x.P x.O x.Z x.Y x.WA x.BA x.nW x.cW x.nB x.cB x.m1 x.s1 x.z1 x.m2 x.s2 x.z2 x.lo x.hi l h (by by_cases h0:x.nB=0;exact .inl h0;exact .inr (fun e=>hs ⟨by omega,e⟩)) (by omega) (by omega) wx).mono ?_
  rintro e w' ⟨A,c,rfl,hb'⟩
  exact⟨A,0,c,fun _=>0,fun _=>0,rfl,by omega,hid (fun j u h=>by simp [pairV] at h),hid ⟨rfl,rfl,rfl⟩,hb'⟩
def SumGAt (g:Nat) (x:Nd) (l h:Int) (wd:World):Prop:=NdAt g x wd∧RchAt (g+1) l h wd∧FreshR (g+2) wd∧g+3≤wd.heap.size
theorem SumGAt.below {g:Nat} {x:Nd} {l h:Int} {w w':World} (q:SumGAt g x l h w) (hb:Below w.heap.size w w'):SumGAt g x l h w':=by
 obtain⟨q1,q2,q4,q5⟩:=q
 exact⟨q1.below (B:=w.heap.size) (by omega) hb,q2.below (B':=w.heap.size) (by omega) hb,q4.below (B':=w.heap.size) (by omega) hb,Nat.le_trans q5 hb.size⟩
theorem SumGAt.new (w:World) (x:Nd) (l h:Int):SumGAt w.heap.size x l h (((w.alloc (.cells x.val 54)).alloc (.cells #[.int .i8 l,.int .i8 h] 172)).alloc (.cells #[.int .i8 0,.int .i8 0] 172))∧Below w.heap.size w (((w.alloc (.cells x.val 54)).alloc (.cells #[.int .i8 l,.int .i8 h] 172)).alloc (.cells #[.int .i8 0,.int .i8 0] 172)):=by
 have b3:Below (w.heap.size+2) ((w.alloc (.cells x.val 54)).alloc (.cells #[.int .i8 l,.int .i8 h] 172)) (((w.alloc (.cells x.val 54)).alloc (.cells #[.int .i8 l,.int .i8 h] 172)).alloc (.cells #[.int .i8 0,.int .i8 0] 172)):=(Below.refl _ _).alloc (by simp) _
 have b2:Below (w.heap.size+1) (w.alloc (.cells x.val 54)) (((w.alloc (.cells x.val 54)).alloc (.cells #[.int .i8 l,.int .i8 h] 172)).alloc (.cells #[.int .i8 0,.int .i8 0] 172)):=((Below.refl _ _).alloc (by simp) _).trans (b3.mono (by omega))
 have b1:Below w.heap.size w (((w.alloc (.cells x.val 54)).alloc (.cells #[.int .i8 l,.int .i8 h] 172)).alloc (.cells #[.int .i8 0,.int .i8 0] 172)):=((Below.refl _ _).alloc (le_refl _) _).trans (b2.mono (by omega))
 have q2:=rchNew l h 172 (w.alloc (.cells x.val 54))
 have q4:=FreshR.new 172 ((w.alloc (.cells x.val 54)).alloc (.cells #[.int .i8 l,.int .i8 h] 172))
 simp only [World.size_alloc] at q2 q4
 exact⟨⟨(NdAt.new x 54 w).below (lt_succ_self _) b2,q2.below (lt_succ_self _) b3,q4,by simp⟩,b1⟩
theorem bord_no (x:Nd) (l h:Int) (hp:¬ 0 < x.P) (w:World) :
  Calls Tryz.prog 171 #[.agg x.val,.agg #[.int .i8 l,.int .i8 h]] w fun e w'=>e=.returned (.agg #[.int .i8 (l),.int .i8 (h)])∧Below w.heap.size w w':=by
 have dp2:decide (x.P≤0)=true:=by simp;omega
 have dp3:x.P≤0:=by omega
 obtain⟨hg0,hw0⟩:=SumGAt.new w x l h
 have HG:=hid hg0
 have HW:=hid hw0
 clear hg0 hw0
 go_enter Tryz.func171,Tryz.ntmps171
 go_upto_region 1 with fail
 generalize ((w.alloc (.cells x.val 54)).alloc (.cells #[.int .i8 l,.int .i8 h] 172)).alloc (.cells #[.int .i8 0,.int .i8 0] 172)=W0 at HG HW ⊢
 have c0:=HG.out.1.at 0 _ rfl
 have c5:=HG.out.1.at 5 _ rfl
 have c7:=HG.out.1.at 7 _ rfl
 have c9:=HG.out.1.at 9 _ rfl
 have c10:=HG.out.1.at 10 _ rfl
 have c11:=HG.out.1.at 11 _ rfl
 have c12:=HG.out.1.at 12 _ rfl
 have c13:=HG.out.1.at 13 _ rfl
 have c17:=HG.out.1.at 17 _ rfl
 have c18:=HG.out.1.at 18 _ rfl
 obtain⟨a0,a1⟩:=HG.out.2.1
 obtain⟨⟨z0,z1⟩,z2,z3⟩:=HG.out.2.2.1
 go_wp2_with (refine zac rfl _ rfl w.heap.size x rfl HG.out.1 ?_)
 refine bodyPost_ret (Kit.zau rfl _ _ (w.heap.size+2) 0 [.int .i8 (l),.int .i8 (h)] _ rfl (Kit.zar (by go_cell) (by go_cell)) Tryz.underlying172 rfl (by kernel_rfl)) rfl ?_
 exact⟨rfl,(HW.out.setCell (p:=⟨w.heap.size+2,0,none⟩) (Nat.le_add_right _ _) _).setCell (p:=⟨w.heap.size+2,1,none⟩) (Nat.le_add_right _ _) _⟩
theorem bord_yes (x:Nd) (l h:Int) (hp:0 < x.P) (w:World) :
  Calls Tryz.prog 171 #[.agg x.val,.agg #[.int .i8 l,.int .i8 h]] w fun e w'=>e=.returned (.agg #[.int .i8 (min l x.Z),.int .i8 (max h x.Z)])∧Below w.heap.size w w':=by
 have dp2:decide (x.P≤0)=false:=by simp;omega
 have dp3:¬ x.P≤0:=by omega
 have CW:=hid (fun wx:World=>widn_to l h x.Z wx)
 generalize min l x.Z=ra at CW ⊢
 generalize max h x.Z=rb at CW ⊢
 obtain⟨hg0,hw0⟩:=SumGAt.new w x l h
 have HG:=hid hg0
 have HW:=hid hw0
 clear hg0 hw0
 go_enter Tryz.func171,Tryz.ntmps171
 go_upto_region 1 with fail
 generalize ((w.alloc (.cells x.val 54)).alloc (.cells #[.int .i8 l,.int .i8 h] 172)).alloc (.cells #[.int .i8 0,.int .i8 0] 172)=W0 at HG HW ⊢
 have c0:=HG.out.1.at 0 _ rfl
 have c5:=HG.out.1.at 5 _ rfl
 have c7:=HG.out.1.at 7 _ rfl
 have c9:=HG.out.1.at 9 _ rfl
 have c10:=HG.out.1.at 10 _ rfl
 have c11:=HG.out.1.at 11 _ rfl
 have c12:=HG.out.1.at 12 _ rfl
 have c13:=HG.out.1.at 13 _ rfl
 have c17:=HG.out.1.at 17 _ rfl
 have c18:=HG.out.1.at 18 _ rfl
 obtain⟨a0,a1⟩:=HG.out.2.1
 go_wp2_with (refine zac rfl _ rfl w.heap.size x rfl HG.out.1 ?_)
 go_at_call 184
 refine (CW.out _).mono ?_
 rintro e w1 ⟨rfl,hw1⟩
 have hb:=same_b hw1
 clear hw1
 replace HG:=hid (HG.out.below hb)
 replace HW:=hid (HW.out.trans (hb.mono HW.out.size))
 clear hb c0 c5 c7 c9 c10 c11 c12 c13 c17 c18 a0 a1
 have c0:=HG.out.1.at 0 _ rfl
 have c5:=HG.out.1.at 5 _ rfl
 have c7:=HG.out.1.at 7 _ rfl
 have c9:=HG.out.1.at 9 _ rfl
 have c10:=HG.out.1.at 10 _ rfl
 have c11:=HG.out.1.at 11 _ rfl
 have c12:=HG.out.1.at 12 _ rfl
 have c13:=HG.out.1.at 13 _ rfl
 have c17:=HG.out.1.at 17 _ rfl
 have c18:=HG.out.1.at 18 _ rfl
 obtain⟨a0,a1⟩:=HG.out.2.1
 obtain⟨⟨z0,z1⟩,z2,z3⟩:=HG.out.2.2.1
 go_wp2_with (refine zac rfl _ rfl w.heap.size x rfl HG.out.1 ?_)
 refine bodyPost_ret (Kit.zau rfl _ _ (w.heap.size+2) 0 [.int .i8 (ra),.int .i8 (rb)] _ rfl (Kit.zar (by go_cell) (by go_cell)) Tryz.underlying172 rfl (by kernel_rfl)) rfl ?_
 exact⟨rfl,(HW.out.setCell (p:=⟨w.heap.size+2,0,none⟩) (Nat.le_add_right _ _) _).setCell (p:=⟨w.heap.size+2,1,none⟩) (Nat.le_add_right _ _) _⟩
theorem csum_over {w:World} (x:Nd) (l h:Int) (bd:(-128≤l∧l≤127)∧(-128≤h∧h≤127)) (ok:NBd x.Z x.Y x.m1 x.z1 x.m2 x.z2 x.lo x.hi) (ws bs:List Int) (hL:NdL w w.heap.size x ws bs) (hW2:x.nW≤20000) (hB2:x.nB≤20000) (X Y:Int) (hf:fitB X Y=false) (hX : -40000000000≤X∧X≤40000000000) (hY : -40000000000≤Y∧Y≤40000000000)
  (hC:∀ wx,Below w.heap.size w wx→Calls Tryz.prog 151 #[.agg x.val,.int .i8 l,.int .i8 h] wx (AllAt (fitB X Y) X Y wx)) :
  Calls Tryz.prog 168 #[.agg x.val,.agg #[.int .i8 l,.int .i8 h]] w fun e w'=>e=.returned (.tuple #[.agg #[.int .i8 (0),.int .i8 (0)],.int .i64 10])∧Below w.heap.size w w':=by
 rw [hf] at hC
 have HC:=hid hC
 clear hC hf hL
 obtain⟨hg0,hw0⟩:=SumGAt.new w x l h
 have HG:=hid hg0
 have HW:=hid hw0
 clear hg0 hw0
 go_enter Tryz.func168,Tryz.ntmps168
 go_upto_region 1 with fail
 generalize ((w.alloc (.cells x.val 54)).alloc (.cells #[.int .i8 l,.int .i8 h] 172)).alloc (.cells #[.int .i8 0,.int .i8 0] 172)=W0 at HG HW ⊢
 have c0:=HG.out.1.at 0 _ rfl
 have c5:=HG.out.1.at 5 _ rfl
 have c7:=HG.out.1.at 7 _ rfl
 have c9:=HG.out.1.at 9 _ rfl
 have c10:=HG.out.1.at 10 _ rfl
 have c11:=HG.out.1.at 11 _ rfl
 have c12:=HG.out.1.at 12 _ rfl
 have c13:=HG.out.1.at 13 _ rfl
 have c17:=HG.out.1.at 17 _ rfl
 have c18:=HG.out.1.at 18 _ rfl
 obtain⟨a0,a1⟩:=HG.out.2.1
 go_wp2_with (refine zac rfl _ rfl w.heap.size x rfl HG.out.1 ?_)
 go_at_call 151
 refine (HC.out _ HW.out).mono ?_
 rintro e w1 ⟨A,n,c,P,Q,rfl,hn,HR,HV,hb⟩
 replace HG:=hid (HG.out.below hb)
 replace HW:=hid (HW.out.trans (hb.mono HW.out.size))
 clear hb c0 c5 c7 c9 c10 c11 c12 c13 c17 c18 a0 a1
 have c0:=HG.out.1.at 0 _ rfl
 have c5:=HG.out.1.at 5 _ rfl
 have c7:=HG.out.1.at 7 _ rfl
 have c9:=HG.out.1.at 9 _ rfl
 have c10:=HG.out.1.at 10 _ rfl
 have c11:=HG.out.1.at 11 _ rfl
 have c12:=HG.out.1.at 12 _ rfl
 have c13:=HG.out.1.at 13 _ rfl
 have c17:=HG.out.1.at 17 _ rfl
 have c18:=HG.out.1.at 18 _ rfl
 obtain⟨a0,a1⟩:=HG.out.2.1
 have CH:=hid (fun (wx:World) (hr:Kit.Rd wx wx.heap.size A (pairV P Q n))=>cholds_to A P Q n c (by omega) wx hr)
 have CB:=hid (fun (wx:World) (hr:Kit.Rd wx wx.heap.size A (pairV P Q n))=>cboth_to A P Q n c (by omega) wx hr)
 rw [HV.out.1] at CH
 rw [HV.out.2.1,HV.out.2.2] at CB
 clear HV
 go_wp2_with (refine zac rfl _ rfl w.heap.size x rfl HG.out.1 ?_)
 go_at_call 152
 refine (CH.out _ HR.out).mono ?_
 rintro e w2 ⟨rfl,hb⟩
 replace HR:=hid ((HR.out.below hb).more hb.size)
 replace HG:=hid (HG.out.below hb)
 replace HW:=hid (HW.out.trans (hb.mono HW.out.size))
 clear hb c0 c5 c7 c9 c10 c11 c12 c13 c17 c18 a0 a1
 have c0:=HG.out.1.at 0 _ rfl
 have c5:=HG.out.1.at 5 _ rfl
 have c7:=HG.out.1.at 7 _ rfl
 have c9:=HG.out.1.at 9 _ rfl
 have c10:=HG.out.1.at 10 _ rfl
 have c11:=HG.out.1.at 11 _ rfl
 have c12:=HG.out.1.at 12 _ rfl
 have c13:=HG.out.1.at 13 _ rfl
 have c17:=HG.out.1.at 17 _ rfl
 have c18:=HG.out.1.at 18 _ rfl
 obtain⟨a0,a1⟩:=HG.out.2.1
 clear CB
 obtain⟨⟨z0,z1⟩,z2,z3⟩:=HG.out.2.2.1
 go_wp2_with (refine zac rfl _ rfl w.heap.size x rfl HG.out.1 ?_)
 refine bodyPost_ret (Kit.zaa rfl _ _ (w.heap.size+2) 0 [.int .i8 (0),.int .i8 (0)] _ rfl (Kit.zar (by go_cell) (by go_cell)) Tryz.underlying172 rfl (by kernel_rfl)) rfl ?_
 exact⟨rfl,(HW.out.setCell (p:=⟨w.heap.size+2,0,none⟩) (Nat.le_add_right _ _) _).setCell (p:=⟨w.heap.size+2,1,none⟩) (Nat.le_add_right _ _) _⟩
theorem csum_yes {w:World} (x:Nd) (l h:Int) (bd:(-128≤l∧l≤127)∧(-128≤h∧h≤127)) (ok:NBd x.Z x.Y x.m1 x.z1 x.m2 x.z2 x.lo x.hi) (ws bs:List Int) (hL:NdL w w.heap.size x ws bs) (hW2:x.nW≤20000) (hB2:x.nB≤20000) (X Y:Int) (hf:fitB X Y=true) (hX : -40000000000≤X∧X≤40000000000) (hY : -40000000000≤Y∧Y≤40000000000)
  (hC:∀ wx,Below w.heap.size w wx→Calls Tryz.prog 151 #[.agg x.val,.int .i8 l,.int .i8 h] wx (AllAt (fitB X Y) X Y wx)) :
  Calls Tryz.prog 168 #[.agg x.val,.agg #[.int .i8 l,.int .i8 h]] w fun e w'=>e=.returned (.tuple #[.agg #[.int .i8 (min (heldZ (c32 (X)) x.m1 x.s1 x.z1 x.lo x.hi) (heldZ (c32 (Y)) x.m1 x.s1 x.z1 x.lo x.hi)),.int .i8 (max (heldZ (c32 (X)) x.m1 x.s1 x.z1 x.lo x.hi) (heldZ (c32 (Y)) x.m1 x.s1 x.z1 x.lo x.hi))],.int .i64 0])∧Below w.heap.size w w':=by
 rw [hf] at hC
 have HC:=hid hC
 have CA:=hid (fun w:World=>cafter_to X Y x.m1 x.s1 x.z1 x.lo x.hi (by omega) (by omega) (by omega) (by omega) ok.2.2.1.1 ok.2.2.1.2 ok.2.2.2.1.1 ok.2.2.2.1.2 ok.2.2.2.2.2.2.1.1 ok.2.2.2.2.2.2.1.2 ok.2.2.2.2.2.2.2.1 ok.2.2.2.2.2.2.2.2 w)
 generalize min (heldZ (c32 (X)) x.m1 x.s1 x.z1 x.lo x.hi) (heldZ (c32 (Y)) x.m1 x.s1 x.z1 x.lo x.hi)=ra at CA ⊢
 generalize max (heldZ (c32 (X)) x.m1 x.s1 x.z1 x.lo x.hi) (heldZ (c32 (Y)) x.m1 x.s1 x.z1 x.lo x.hi)=rb at CA ⊢
 clear hC hf hL
 obtain⟨hg0,hw0⟩:=SumGAt.new w x l h
 have HG:=hid hg0
 have HW:=hid hw0
 clear hg0 hw0
 go_enter Tryz.func168,Tryz.ntmps168
 go_upto_region 1 with fail
 generalize ((w.alloc (.cells x.val 54)).alloc (.cells #[.int .i8 l,.int .i8 h] 172)).alloc (.cells #[.int .i8 0,.int .i8 0] 172)=W0 at HG HW ⊢
 have c0:=HG.out.1.at 0 _ rfl
 have c5:=HG.out.1.at 5 _ rfl
 have c7:=HG.out.1.at 7 _ rfl
 have c9:=HG.out.1.at 9 _ rfl
 have c10:=HG.out.1.at 10 _ rfl
 have c11:=HG.out.1.at 11 _ rfl
 have c12:=HG.out.1.at 12 _ rfl
 have c13:=HG.out.1.at 13 _ rfl
 have c17:=HG.out.1.at 17 _ rfl
 have c18:=HG.out.1.at 18 _ rfl
 obtain⟨a0,a1⟩:=HG.out.2.1
 go_wp2_with (refine zac rfl _ rfl w.heap.size x rfl HG.out.1 ?_)
 go_at_call 151
 refine (HC.out _ HW.out).mono ?_
 rintro e w1 ⟨A,n,c,P,Q,rfl,hn,HR,HV,hb⟩
 replace HG:=hid (HG.out.below hb)
 replace HW:=hid (HW.out.trans (hb.mono HW.out.size))
 clear hb c0 c5 c7 c9 c10 c11 c12 c13 c17 c18 a0 a1
 have c0:=HG.out.1.at 0 _ rfl
 have c5:=HG.out.1.at 5 _ rfl
 have c7:=HG.out.1.at 7 _ rfl
 have c9:=HG.out.1.at 9 _ rfl
 have c10:=HG.out.1.at 10 _ rfl
 have c11:=HG.out.1.at 11 _ rfl
 have c12:=HG.out.1.at 12 _ rfl
 have c13:=HG.out.1.at 13 _ rfl
 have c17:=HG.out.1.at 17 _ rfl
 have c18:=HG.out.1.at 18 _ rfl
 obtain⟨a0,a1⟩:=HG.out.2.1
 have CH:=hid (fun (wx:World) (hr:Kit.Rd wx wx.heap.size A (pairV P Q n))=>cholds_to A P Q n c (by omega) wx hr)
 have CB:=hid (fun (wx:World) (hr:Kit.Rd wx wx.heap.size A (pairV P Q n))=>cboth_to A P Q n c (by omega) wx hr)
 rw [HV.out.1] at CH
 rw [HV.out.2.1,HV.out.2.2] at CB
 clear HV
 go_wp2_with (refine zac rfl _ rfl w.heap.size x rfl HG.out.1 ?_)
 go_at_call 152
 refine (CH.out _ HR.out).mono ?_
 rintro e w2 ⟨rfl,hb⟩
 replace HR:=hid ((HR.out.below hb).more hb.size)
 replace HG:=hid (HG.out.below hb)
 replace HW:=hid (HW.out.trans (hb.mono HW.out.size))
 clear hb c0 c5 c7 c9 c10 c11 c12 c13 c17 c18 a0 a1
 have c0:=HG.out.1.at 0 _ rfl
 have c5:=HG.out.1.at 5 _ rfl
 have c7:=HG.out.1.at 7 _ rfl
 have c9:=HG.out.1.at 9 _ rfl
 have c10:=HG.out.1.at 10 _ rfl
 have c11:=HG.out.1.at 11 _ rfl
 have c12:=HG.out.1.at 12 _ rfl
 have c13:=HG.out.1.at 13 _ rfl
 have c17:=HG.out.1.at 17 _ rfl
 have c18:=HG.out.1.at 18 _ rfl
 obtain⟨a0,a1⟩:=HG.out.2.1
 go_upto_region 4 with fail
 have HSZ:=hid HG.out.2.2.2
 have HFR:=hid HG.out.2.2.1
 refine wp_region_held_drew (S:=fun w'=>NdAt w.heap.size x w') (by kernel_rfl) HG.out.1 (fun hHeld=>?_)
 replace HSZ:Hid (w.heap.size+3≤w2.drew.heap.size):=hid HSZ.out
 replace HFR:=hid (HFR.out.below (B':=w2.heap.size) (by have:=HSZ.out;simp at this;omega) (Below.refl _ _).drew)
 replace HW:=hid HW.out.drew
 replace HR:Hid (Kit.Rd w2.drew w2.drew.heap.size A (pairV P Q n)):=hid HR.out
 clear HG c0 c5 c7 c9 c10 c11 c12 c13 c17 c18 a0 a1
 generalize w2.drew=Wd at HSZ HFR HW HR hHeld ⊢
 refine Tk.x 0 rfl ?_
 try simp only [Tk.put]
 refine Tk.x 2 rfl ?_
 try simp only [Tk.put]
 refine Tk.y 3 (v:=.agg #[.int .i32 x.m1,.int .i64 x.s1,.int .i8 x.z1]) rfl ?_ ?_
 ·intro wS hSw
  have y11:=hSw.at 11 _ rfl
  have y12:=hSw.at 12 _ rfl
  have y13:=hSw.at 13 _ rfl
  have y17:=hSw.at 17 _ rfl
  have y18:=hSw.at 18 _ rfl
  first | (go_simp;done) | (go_simp;with_reducible rfl)
 try simp only [Tk.put]
 refine Tk.x 4 rfl ?_
 try simp only [Tk.put]
 refine Tk.y 5 (v:=.int .i8 x.lo) rfl ?_ ?_
 ·intro wS hSw
  have y11:=hSw.at 11 _ rfl
  have y12:=hSw.at 12 _ rfl
  have y13:=hSw.at 13 _ rfl
  have y17:=hSw.at 17 _ rfl
  have y18:=hSw.at 18 _ rfl
  first | (go_simp;done) | (go_simp;with_reducible rfl)
 try simp only [Tk.put]
 refine Tk.x 6 rfl ?_
 try simp only [Tk.put]
 refine Tk.y 7 (v:=.int .i8 x.hi) rfl ?_ ?_
 ·intro wS hSw
  have y11:=hSw.at 11 _ rfl
  have y12:=hSw.at 12 _ rfl
  have y13:=hSw.at 13 _ rfl
  have y17:=hSw.at 17 _ rfl
  have y18:=hSw.at 18 _ rfl
  first | (go_simp;done) | (go_simp;with_reducible rfl)
 try simp only [Tk.put]
 refine Tk.s 1 rfl (fun K hK=>?_)
 go_simp
 go_at_call 179
 refine (CB.out _ HR.out).mono ?_
 rintro e w3 ⟨rfl,hb⟩
 have hS2:=hHeld.below (B:=Wd.heap.size) (by have:=HSZ.out;omega) hb
 replace HFR:=hid (HFR.out.below (B':=Wd.heap.size) (by have:=HSZ.out;omega) hb)
 replace HW:=hid (HW.out.trans (hb.mono HW.out.size))
 replace HSZ:=hid (Nat.le_trans HSZ.out hb.size)
 clear hb hHeld
 dsimp only
 refine hK.out _ _ hS2 (fun hHeld=>?_)
 clear hK K hS2
 try simp only [Tk.put]
 refine Tk.s 8 rfl (fun K hK=>?_)
 go_simp
 go_at_call 178
 refine (CA.out _).mono ?_
 rintro e w4 ⟨rfl,hb⟩
 have hS2:=hHeld.below (B:=w3.heap.size) (by have:=HSZ.out;omega) hb
 replace HFR:=hid (HFR.out.below (B':=w3.heap.size) (by have:=HSZ.out;omega) hb)
 replace HW:=hid (HW.out.trans (hb.mono HW.out.size))
 replace HSZ:=hid (Nat.le_trans HSZ.out hb.size)
 clear hb hHeld
 dsimp only
 refine hK.out _ _ hS2 (fun hHeld=>?_)
 clear hK K hS2
 try simp only [Tk.put]
 refine Tk.x 9 rfl ?_
 try simp only [Tk.put]
 refine Tk.x 10 rfl ?_
 try simp only [Tk.put]
 refine Tk.x 11 rfl ?_
 try simp only [Tk.put]
 refine Tk.x 12 rfl ?_
 try simp only [Tk.put]
 refine Tk.x 13 rfl ?_
 try simp only [Tk.put]
 refine wpAnyH_done (by kernel_rfl) ?_ _
 obtain⟨⟨z0,z1⟩,z2,z3⟩:=HFR.out
 clear hHeld
 go_wp2_with fail
 refine bodyPost_ret (Kit.zaa rfl _ _ (w.heap.size+2) 0 [.int .i8 (ra),.int .i8 (rb)] _ rfl (Kit.zar (by go_cell) (by go_cell)) Tryz.underlying172 rfl (by kernel_rfl)) rfl ?_
 exact⟨rfl,(HW.out.setCell (p:=⟨w.heap.size+2,0,none⟩) (Nat.le_add_right _ _) _).setCell (p:=⟨w.heap.size+2,1,none⟩) (Nat.le_add_right _ _) _⟩
theorem csum_to {w:World} (x:Nd) (l h:Int) (bd:(-128≤l∧l≤127)∧(-128≤h∧h≤127)) (ok:NBd x.Z x.Y x.m1 x.z1 x.m2 x.z2 x.lo x.hi) (ws bs:List Int) (hL:NdL w w.heap.size x ws bs) (hW2:x.nW≤20000) (hB2:x.nB≤20000) :
  Calls Tryz.prog 168 #[.agg x.val,.agg #[.int .i8 l,.int .i8 h]] w fun e w'=>e=.returned (.tuple #[.agg #[.int .i8 (sgZ x ws bs l h).1,.int .i8 (sgZ x ws bs l h).2.1],.int .i64 (sgZ x ws bs l h).2.2])∧Below w.heap.size w w':=by
 obtain⟨X,Y,h1,h2,hX,hY,hC⟩:=all_any x l h bd ok ws bs hL hW2 hB2
 cases hf:fitB X Y
 ·rw [h2 hf];exact csum_over x l h bd ok ws bs hL hW2 hB2 X Y hf hX hY hC
 ·rw [h1 hf];exact csum_yes x l h bd ok ws bs hL hW2 hB2 X Y hf hX hY hC
end CGuard
end
end Go.Proofs.YtfgdfignoakkaaaGreatDoor
