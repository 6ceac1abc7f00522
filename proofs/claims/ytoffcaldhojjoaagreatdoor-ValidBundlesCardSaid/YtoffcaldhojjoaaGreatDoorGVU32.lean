/- -/
import Derived.Test.YtoffcaldhojjoaaGreatDoorGVU31
open Go.Lib (hid)
open Nat (le_refl lt_of_succ_lt lt_succ_self)
set_option linter.unusedVariables false
set_option linter.unusedSimpArgs false
set_option maxRecDepth 100000
set_option maxHeartbeats 16000000
namespace Go.Proofs.YtoffcaldhojjoaaGreatDoor
namespace CConv
end CConv
namespace CFix
end CFix
namespace CGraph
end CGraph
namespace CKind
end CKind
namespace CSat
end CSat
namespace CSpan
end CSpan
namespace CTensor
end CTensor
open Go Go.ChangeShapes Go.WideShapes Go.ChangeAt Go.RowKit Go.Deep
section
namespace CGuard
open Plain CSat CFix CShape CTensor CConv CSpan CKind CGraph CJoin
structure NdL (w:World) (B:Nat) (x:Nd) (ws bs:List Int):Prop where
 ok:NdOk w B x
 lw:ws.length=x.nW
 lb:bs.length=x.nB
 cw:x.nW≤x.cW∧x.nB≤x.cB
 iw:I8b ws
 ib:∀ q, -2147483648≤bs.getD q 0∧bs.getD q 0≤2147483647
 rw:Kit.Rd w B x.WA (I8s ws)
 rb:Kit.Rd w B x.BA (I32v bs)
def FreshR (B:Nat) (wd:World):Prop :=
 (wd.cell? ⟨B,0,none⟩=some (.int .i8 0)∧wd.cell? ⟨B,1,none⟩=some (.int .i8 0))∧wd.frozen? ⟨B,0,none⟩=false∧wd.frozen? ⟨B,1,none⟩=false
theorem FreshR.new (T:TypeId) (w:World):FreshR w.heap.size (w.alloc (.cells #[.int .i8 0,.int .i8 0] T)) :=
 ⟨⟨Kit.zal _ _ _ _,Kit.zal _ _ _ _⟩,World.frozen?_alloc_at _ _ _ _ rfl,World.frozen?_alloc_at _ _ _ _ rfl⟩
theorem FreshR.below {B B':Nat} {w w':World} (h:FreshR B w) (hB:B < B') (hb:Below B' w w'):FreshR B w':=by
 obtain⟨⟨h1,h2⟩,h5,h6⟩:=h
 exact⟨⟨(hb.cell (p:=⟨B,0,none⟩) hB).trans h1,(hb.cell (p:=⟨B,1,none⟩) hB).trans h2⟩,(hb.frozen (p:=⟨B,0,none⟩) hB).trans h5,(hb.frozen (p:=⟨B,1,none⟩) hB).trans h6⟩
def zau (g:Nat) (x:Nd) (l h l2 h2:Int) (wd:World):Prop:=NdAt g x wd∧RchAt (g+1) l h wd∧RchAt (g+2) l2 h2 wd∧FreshR (g+3) wd∧g+4≤wd.heap.size
theorem zau.below {g:Nat} {x:Nd} {l h l2 h2:Int} {w w':World} (q:zau g x l h l2 h2 w) (hb:Below w.heap.size w w'):zau g x l h l2 h2 w':=by
 obtain⟨q1,q2,q3,q4,q5⟩:=q
 exact⟨q1.below (B:=w.heap.size) (by omega) hb,q2.below (B':=w.heap.size) (by omega) hb,q3.below (B':=w.heap.size) (by omega) hb,q4.below (B':=w.heap.size) (by omega) hb,Nat.le_trans q5 hb.size⟩
theorem zau.new (w:World) (x:Nd) (l h l2 h2:Int):zau w.heap.size x l h l2 h2 ((((w.alloc (.cells x.val 61)).alloc (.cells #[.int .i8 l,.int .i8 h] 70)).alloc (.cells #[.int .i8 l2,.int .i8 h2] 70)).alloc (.cells #[.int .i8 0,.int .i8 0] 70))∧Below w.heap.size w ((((w.alloc (.cells x.val 61)).alloc (.cells #[.int .i8 l,.int .i8 h] 70)).alloc (.cells #[.int .i8 l2,.int .i8 h2] 70)).alloc (.cells #[.int .i8 0,.int .i8 0] 70)):=by
 have b4:Below (w.heap.size+3) (((w.alloc (.cells x.val 61)).alloc (.cells #[.int .i8 l,.int .i8 h] 70)).alloc (.cells #[.int .i8 l2,.int .i8 h2] 70)) ((((w.alloc (.cells x.val 61)).alloc (.cells #[.int .i8 l,.int .i8 h] 70)).alloc (.cells #[.int .i8 l2,.int .i8 h2] 70)).alloc (.cells #[.int .i8 0,.int .i8 0] 70)):=(Below.refl _ _).alloc (by simp) _
 have b3:Below (w.heap.size+2) ((w.alloc (.cells x.val 61)).alloc (.cells #[.int .i8 l,.int .i8 h] 70)) ((((w.alloc (.cells x.val 61)).alloc (.cells #[.int .i8 l,.int .i8 h] 70)).alloc (.cells #[.int .i8 l2,.int .i8 h2] 70)).alloc (.cells #[.int .i8 0,.int .i8 0] 70)):=((Below.refl _ _).alloc (by simp) _).trans (b4.mono (by omega))
 have b2:Below (w.heap.size+1) (w.alloc (.cells x.val 61)) ((((w.alloc (.cells x.val 61)).alloc (.cells #[.int .i8 l,.int .i8 h] 70)).alloc (.cells #[.int .i8 l2,.int .i8 h2] 70)).alloc (.cells #[.int .i8 0,.int .i8 0] 70)):=((Below.refl _ _).alloc (by simp) _).trans (b3.mono (by omega))
 have b1:Below w.heap.size w ((((w.alloc (.cells x.val 61)).alloc (.cells #[.int .i8 l,.int .i8 h] 70)).alloc (.cells #[.int .i8 l2,.int .i8 h2] 70)).alloc (.cells #[.int .i8 0,.int .i8 0] 70)):=((Below.refl _ _).alloc (le_refl _) _).trans (b2.mono (by omega))
 have q2:=zce l h 70 (w.alloc (.cells x.val 61))
 have q3:=zce l2 h2 70 ((w.alloc (.cells x.val 61)).alloc (.cells #[.int .i8 l,.int .i8 h] 70))
 have q4:=FreshR.new 70 (((w.alloc (.cells x.val 61)).alloc (.cells #[.int .i8 l,.int .i8 h] 70)).alloc (.cells #[.int .i8 l2,.int .i8 h2] 70))
 simp only [World.size_alloc] at q2 q3 q4
 exact⟨⟨(NdAt.new x 61 w).below (lt_succ_self _) b2,q2.below (lt_succ_self _) b3,q3.below (lt_succ_self _) b4,q4,by simp⟩,b1⟩
theorem zcf {g q i:Nat} {x:Nd} {u:Value} {w:World} (h:NdAt g x w) (hq:q≠g):NdAt g x (w.setCell ⟨q,i,none⟩ u):=fun j v hj=>(World.cell?_setCell_other _ _ _ _ (fun e=>by injection e;omega)).trans (h j v hj)
theorem za9 {g q i:Nat} {l h:Int} {u:Value} {w:World} (r:RchAt g l h w) (hq:q≠g):RchAt g l h (w.setCell ⟨q,i,none⟩ u) :=
 ⟨(World.cell?_setCell_other _ _ _ _ (fun e=>by injection e;omega)).trans r.1,(World.cell?_setCell_other _ _ _ _ (fun e=>by injection e;omega)).trans r.2⟩
theorem min_iteN (a b:Int):(if b < a then b else a)=min a b:=by split <;> omega
theorem max_iteN (a b:Int):(if a < b then b else a)=max a b:=by split <;> omega
theorem nbd_of {w:World} {B:Nat} {x:Nd} (h:NdOk w B x):NBd x.Z x.Y x.m1 x.z1 x.m2 x.z2 x.lo x.hi:=⟨h.z,h.q.2.2.2.2.2.2,h.q.1,h.q.2.2.1,h.q.2.1,h.q.2.2.2.1,h.q.2.2.2.2.1,h.q.2.2.2.2.2.1⟩
theorem rgn_sum2n {w:World} (x:Nd) (l h l2 h2:Int) (bd:(-128≤l∧l≤127)∧(-128≤h∧h≤127)∧(-128≤l2∧l2≤127)∧(-128≤h2∧h2≤127)) (ok:NBd x.Z x.Y x.m1 x.z1 x.m2 x.z2 x.lo x.hi) (ws bs:List Int) (hL:NdL w w.heap.size x ws bs) (hW2:x.nW≤20000) (hB2:x.nB≤20000) (he:x.checkZ=0) (hk:x.kd=2) (hlh:l≤h) (hs:¬ (1≤x.nB∧x.nW % x.nB=0)) :
  Calls Tryz.prog 30 #[.agg x.val,.agg #[.int .i8 l,.int .i8 h],.agg #[.int .i8 l2,.int .i8 h2]] w fun e w'=>e=.returned (.tuple #[.agg #[.int .i8 (min (heldZ (c32 0) x.m1 x.s1 x.z1 x.lo x.hi) (heldZ (c32 0) x.m1 x.s1 x.z1 x.lo x.hi)),.int .i8 (max (heldZ (c32 0) x.m1 x.s1 x.z1 x.lo x.hi) (heldZ (c32 0) x.m1 x.s1 x.z1 x.lo x.hi))],.int .i64 (0)])∧Below w.heap.size w w':=by
 obtain⟨hg0,hw0⟩:=zau.new w x l h l2 h2
 have HG:=hid hg0
 have HW:=hid hw0
 have hck:=zar x
 unfold zbh at hck
 rw [he] at hck
 have dlh:decide (h < l)=false:=by simp;omega
 have dlh2:¬ h < l:=by omega
 have dk1:(x.kd == 1)=false:=by simp [hk]
 have dk2:(x.kd == 2)=true:=by simp [hk]
 have dk3:(x.kd == 3)=false:=by simp [hk]
 have dk6:(x.kd == 6)=false:=by simp [hk]
 have dk7:(x.kd == 7)=false:=by simp [hk]
 have dk8:(x.kd == 8)=false:=by simp [hk]
 have CS:=hid (fun w:World=>zbc x.WA x.BA x.nW x.cW x.nB x.cB (by omega) (by omega) w)
 rw [show decide (1≤x.nB∧x.nW % x.nB=0)=false by simp only [hs,decide_false]] at CS
 have CA:=hid (fun w:World=>zcg (0) (0) x.m1 x.s1 x.z1 x.lo x.hi ok.2.2.1.1 ok.2.2.1.2 ok.2.2.2.1.1 ok.2.2.2.1.2 ok.2.2.2.2.2.2.1.1 ok.2.2.2.2.2.2.1.2 ok.2.2.2.2.2.2.2.1 ok.2.2.2.2.2.2.2.2 w)
 generalize min (heldZ (c32 (0)) x.m1 x.s1 x.z1 x.lo x.hi) (heldZ (c32 (0)) x.m1 x.s1 x.z1 x.lo x.hi)=ra at CA ⊢
 generalize max (heldZ (c32 (0)) x.m1 x.s1 x.z1 x.lo x.hi) (heldZ (c32 (0)) x.m1 x.s1 x.z1 x.lo x.hi)=rb at CA ⊢
 have CK:=hid hck
 clear hg0 hw0 hck he hk hs
 go_enter Tryz.func30,Tryz.ntmps30
 go_upto_region 1 with fail
 generalize ((((w.alloc (.cells x.val 61)).alloc (.cells #[.int .i8 l,.int .i8 h] 70)).alloc (.cells #[.int .i8 l2,.int .i8 h2] 70)).alloc (.cells #[.int .i8 0,.int .i8 0] 70))=W0 at HG HW ⊢
 have c0:=HG.out.1.at 0 _ rfl
 have c5:=HG.out.1.at 5 _ rfl
 have c7:=HG.out.1.at 7 _ rfl
 have c9:=HG.out.1.at 9 _ rfl
 have c10:=HG.out.1.at 10 _ rfl
 have c11:=HG.out.1.at 11 _ rfl
 have c12:=HG.out.1.at 12 _ rfl
 have c13:=HG.out.1.at 13 _ rfl
 have c17:=HG.out.1.at 17 _ rfl
 have c18:=HG.out.1.at 18 _ rfl
 obtain⟨a0,a1⟩:=HG.out.2.1
 obtain⟨b0,b1⟩:=HG.out.2.2.1
 go_wp2_with (refine zac rfl _ rfl w.heap.size x rfl HG.out.1 ?_)
 go_at_call 22
 refine (CK.out _).mono ?_
 rintro e w1 ⟨rfl,hb⟩
 replace HG:=hid (HG.out.below hb)
 replace HW:=hid (HW.out.trans (hb.mono HW.out.size))
 clear hb c0 c5 c7 c9 c10 c11 c12 c13 c17 c18 a0 a1 b0 b1
 have c0:=HG.out.1.at 0 _ rfl
 have c5:=HG.out.1.at 5 _ rfl
 have c7:=HG.out.1.at 7 _ rfl
 have c9:=HG.out.1.at 9 _ rfl
 have c10:=HG.out.1.at 10 _ rfl
 have c11:=HG.out.1.at 11 _ rfl
 have c12:=HG.out.1.at 12 _ rfl
 have c13:=HG.out.1.at 13 _ rfl
 have c17:=HG.out.1.at 17 _ rfl
 have c18:=HG.out.1.at 18 _ rfl
 obtain⟨a0,a1⟩:=HG.out.2.1
 obtain⟨b0,b1⟩:=HG.out.2.2.1
 go_wp2_with (refine zac rfl _ rfl w.heap.size x rfl HG.out.1 ?_)
 go_at_call 31
 refine (CS.out _).mono ?_
 rintro e w2 ⟨rfl,hw1⟩
 have hb:=zch hw1
 clear hw1
 replace HG:=hid (HG.out.below hb)
 replace HW:=hid (HW.out.trans (hb.mono HW.out.size))
 clear hb c0 c5 c7 c9 c10 c11 c12 c13 c17 c18 a0 a1 b0 b1
 have c0:=HG.out.1.at 0 _ rfl
 have c5:=HG.out.1.at 5 _ rfl
 have c7:=HG.out.1.at 7 _ rfl
 have c9:=HG.out.1.at 9 _ rfl
 have c10:=HG.out.1.at 10 _ rfl
 have c11:=HG.out.1.at 11 _ rfl
 have c12:=HG.out.1.at 12 _ rfl
 have c13:=HG.out.1.at 13 _ rfl
 have c17:=HG.out.1.at 17 _ rfl
 have c18:=HG.out.1.at 18 _ rfl
 obtain⟨a0,a1⟩:=HG.out.2.1
 obtain⟨b0,b1⟩:=HG.out.2.2.1
 go_wp2_with (refine zac rfl _ rfl w.heap.size x rfl HG.out.1 ?_)
 go_at_call 50
 refine (CA.out _).mono ?_
 rintro e w3 ⟨rfl,hb⟩
 replace HG:=hid (HG.out.below hb)
 replace HW:=hid (HW.out.trans (hb.mono HW.out.size))
 clear hb c0 c5 c7 c9 c10 c11 c12 c13 c17 c18 a0 a1 b0 b1
 have c0:=HG.out.1.at 0 _ rfl
 have c5:=HG.out.1.at 5 _ rfl
 have c7:=HG.out.1.at 7 _ rfl
 have c9:=HG.out.1.at 9 _ rfl
 have c10:=HG.out.1.at 10 _ rfl
 have c11:=HG.out.1.at 11 _ rfl
 have c12:=HG.out.1.at 12 _ rfl
 have c13:=HG.out.1.at 13 _ rfl
 have c17:=HG.out.1.at 17 _ rfl
 have c18:=HG.out.1.at 18 _ rfl
 obtain⟨a0,a1⟩:=HG.out.2.1
 obtain⟨b0,b1⟩:=HG.out.2.2.1
 obtain⟨⟨z0,z1⟩,z2,z3⟩:=HG.out.2.2.2.1
 go_wp2_with (refine zac rfl _ rfl w.heap.size x rfl HG.out.1 ?_)
 refine bodyPost_ret (Kit.zaa rfl _ _ (w.heap.size+3) 0 [.int .i8 (ra),.int .i8 (rb)] _ rfl (Kit.zaq (by go_cell) (by go_cell)) Tryz.underlying70 rfl (by kernel_rfl)) rfl ?_
 exact⟨rfl,(HW.out.setCell (p:=⟨w.heap.size+3,0,none⟩) (by simp) _).setCell (p:=⟨w.heap.size+3,1,none⟩) (by simp) _⟩
theorem rgn_sum2o {w:World} (x:Nd) (l h l2 h2:Int) (bd:(-128≤l∧l≤127)∧(-128≤h∧h≤127)∧(-128≤l2∧l2≤127)∧(-128≤h2∧h2≤127)) (ok:NBd x.Z x.Y x.m1 x.z1 x.m2 x.z2 x.lo x.hi) (ws bs:List Int) (hL:NdL w w.heap.size x ws bs) (hW2:x.nW≤20000) (hB2:x.nB≤20000) (he:x.checkZ=0) (hk:x.kd=2) (hlh:l≤h) (hs:1≤x.nB∧x.nW % x.nB=0) (hf:fitB (lsW ws bs x.nW x.nB l h x.Z (decide (0 < x.P))) (grW ws bs x.nW x.nB l h x.Z (decide (0 < x.P)))=false) :
  Calls Tryz.prog 30 #[.agg x.val,.agg #[.int .i8 l,.int .i8 h],.agg #[.int .i8 l2,.int .i8 h2]] w fun e w'=>e=.returned (.tuple #[.agg #[.int .i8 (0),.int .i8 (0)],.int .i64 (10)])∧Below w.heap.size w w':=by
 obtain⟨hg0,hw0⟩:=zau.new w x l h l2 h2
 have HG:=hid hg0
 have HW:=hid hw0
 have hck:=zar x
 unfold zbh at hck
 rw [he] at hck
 have dlh:decide (h < l)=false:=by simp;omega
 have dlh2:¬ h < l:=by omega
 have dk1:(x.kd == 1)=false:=by simp [hk]
 have dk2:(x.kd == 2)=true:=by simp [hk]
 have dk3:(x.kd == 3)=false:=by simp [hk]
 have dk6:(x.kd == 6)=false:=by simp [hk]
 have dk7:(x.kd == 7)=false:=by simp [hk]
 have dk8:(x.kd == 8)=false:=by simp [hk]
 have CS:=hid (fun w:World=>zbc x.WA x.BA x.nW x.cW x.nB x.cB (by omega) (by omega) w)
 rw [show decide (1≤x.nB∧x.nW % x.nB=0)=true by simp only [hs,and_self,decide_true]] at CS
 obtain⟨g,hg⟩:∃ g,decide (0 < x.P)=g:=⟨_,rfl⟩
 have CR:=hid (fun (w':World) (a:Below w.heap.size w w')=>zcd x.WA x.BA x.nW x.cW x.nB x.cB ws bs hL.lw hL.lb hL.iw hL.ib hL.cw.1 hL.cw.2 hW2 hB2 l h x.Z bd.1.1 bd.1.2 bd.2.1.1 bd.2.1.2 ok.1.1 ok.1.2 g (x.nW / x.nB) (za4 hs) hs.1 (lsW ws bs x.nW x.nB l h x.Z g) (grW ws bs x.nW x.nB l h x.Z g) rfl rfl w' ((hL.rw.below a).more a.size) ((hL.rb.below a).more a.size))
 rw [hg] at hf
 rw [hf] at CR
 generalize lsW ws bs x.nW x.nB l h x.Z g=X at CR
 generalize grW ws bs x.nW x.nB l h x.Z g=Y at CR
 have dp0:decide (x.P > 0)=g:=hg
 have CK:=hid hck
 clear hg0 hw0 hck he hk hs hL hW2 hB2 hf
 go_enter Tryz.func30,Tryz.ntmps30
 go_upto_region 1 with fail
 generalize ((((w.alloc (.cells x.val 61)).alloc (.cells #[.int .i8 l,.int .i8 h] 70)).alloc (.cells #[.int .i8 l2,.int .i8 h2] 70)).alloc (.cells #[.int .i8 0,.int .i8 0] 70))=W0 at HG HW ⊢
 have c0:=HG.out.1.at 0 _ rfl
 have c5:=HG.out.1.at 5 _ rfl
 have c7:=HG.out.1.at 7 _ rfl
 have c9:=HG.out.1.at 9 _ rfl
 have c10:=HG.out.1.at 10 _ rfl
 have c11:=HG.out.1.at 11 _ rfl
 have c12:=HG.out.1.at 12 _ rfl
 have c13:=HG.out.1.at 13 _ rfl
 have c17:=HG.out.1.at 17 _ rfl
 have c18:=HG.out.1.at 18 _ rfl
 obtain⟨a0,a1⟩:=HG.out.2.1
 obtain⟨b0,b1⟩:=HG.out.2.2.1
 go_wp2_with (refine zac rfl _ rfl w.heap.size x rfl HG.out.1 ?_)
 go_at_call 22
 refine (CK.out _).mono ?_
 rintro e w1 ⟨rfl,hb⟩
 replace HG:=hid (HG.out.below hb)
 replace HW:=hid (HW.out.trans (hb.mono HW.out.size))
 clear hb c0 c5 c7 c9 c10 c11 c12 c13 c17 c18 a0 a1 b0 b1
 have c0:=HG.out.1.at 0 _ rfl
 have c5:=HG.out.1.at 5 _ rfl
 have c7:=HG.out.1.at 7 _ rfl
 have c9:=HG.out.1.at 9 _ rfl
 have c10:=HG.out.1.at 10 _ rfl
 have c11:=HG.out.1.at 11 _ rfl
 have c12:=HG.out.1.at 12 _ rfl
 have c13:=HG.out.1.at 13 _ rfl
 have c17:=HG.out.1.at 17 _ rfl
 have c18:=HG.out.1.at 18 _ rfl
 obtain⟨a0,a1⟩:=HG.out.2.1
 obtain⟨b0,b1⟩:=HG.out.2.2.1
 go_wp2_with (refine zac rfl _ rfl w.heap.size x rfl HG.out.1 ?_)
 go_at_call 31
 refine (CS.out _).mono ?_
 rintro e w2 ⟨rfl,hw1⟩
 have hb:=zch hw1
 clear hw1
 replace HG:=hid (HG.out.below hb)
 replace HW:=hid (HW.out.trans (hb.mono HW.out.size))
 clear hb c0 c5 c7 c9 c10 c11 c12 c13 c17 c18 a0 a1 b0 b1
 have c0:=HG.out.1.at 0 _ rfl
 have c5:=HG.out.1.at 5 _ rfl
 have c7:=HG.out.1.at 7 _ rfl
 have c9:=HG.out.1.at 9 _ rfl
 have c10:=HG.out.1.at 10 _ rfl
 have c11:=HG.out.1.at 11 _ rfl
 have c12:=HG.out.1.at 12 _ rfl
 have c13:=HG.out.1.at 13 _ rfl
 have c17:=HG.out.1.at 17 _ rfl
 have c18:=HG.out.1.at 18 _ rfl
 obtain⟨a0,a1⟩:=HG.out.2.1
 obtain⟨b0,b1⟩:=HG.out.2.2.1
 go_wp2_with (refine zac rfl _ rfl w.heap.size x rfl HG.out.1 ?_)
 go_at_call 32
 refine (CR.out _ HW.out).mono ?_
 rintro e w3 ⟨rfl,m3,hw3⟩
 have hb:=quiet_b hw3
 clear hw3
 replace HG:=hid (HG.out.below hb)
 replace HW:=hid (HW.out.trans (hb.mono HW.out.size))
 clear hb c0 c5 c7 c9 c10 c11 c12 c13 c17 c18 a0 a1 b0 b1
 have c0:=HG.out.1.at 0 _ rfl
 have c5:=HG.out.1.at 5 _ rfl
 have c7:=HG.out.1.at 7 _ rfl
 have c9:=HG.out.1.at 9 _ rfl
 have c10:=HG.out.1.at 10 _ rfl
 have c11:=HG.out.1.at 11 _ rfl
 have c12:=HG.out.1.at 12 _ rfl
 have c13:=HG.out.1.at 13 _ rfl
 have c17:=HG.out.1.at 17 _ rfl
 have c18:=HG.out.1.at 18 _ rfl
 obtain⟨a0,a1⟩:=HG.out.2.1
 obtain⟨b0,b1⟩:=HG.out.2.2.1
 obtain⟨⟨z0,z1⟩,z2,z3⟩:=HG.out.2.2.2.1
 go_wp2_with (refine zac rfl _ rfl w.heap.size x rfl HG.out.1 ?_)
 refine bodyPost_ret (Kit.zaa rfl _ _ (w.heap.size+3) 0 [.int .i8 (0),.int .i8 (0)] _ rfl (Kit.zaq (by go_cell) (by go_cell)) Tryz.underlying70 rfl (by kernel_rfl)) rfl ?_
 exact⟨rfl,(HW.out.setCell (p:=⟨w.heap.size+3,0,none⟩) (by simp) _).setCell (p:=⟨w.heap.size+3,1,none⟩) (by simp) _⟩
theorem rgn_sum3o {w:World} (x:Nd) (l h l2 h2:Int) (bd:(-128≤l∧l≤127)∧(-128≤h∧h≤127)∧(-128≤l2∧l2≤127)∧(-128≤h2∧h2≤127)) (ok:NBd x.Z x.Y x.m1 x.z1 x.m2 x.z2 x.lo x.hi) (ws bs:List Int) (hL:NdL w w.heap.size x ws bs) (hW2:x.nW≤20000) (hB2:x.nB≤20000) (he:x.checkZ=0) (hk:x.kd=3) (hlh:l≤h) (hs:1≤x.nB∧x.nW % x.nB=0) (hf:fitB (lsW ws bs x.nW x.nB l h x.Z (decide (0 < x.P))) (grW ws bs x.nW x.nB l h x.Z (decide (0 < x.P)))=false) :
  Calls Tryz.prog 30 #[.agg x.val,.agg #[.int .i8 l,.int .i8 h],.agg #[.int .i8 l2,.int .i8 h2]] w fun e w'=>e=.returned (.tuple #[.agg #[.int .i8 (0),.int .i8 (0)],.int .i64 (10)])∧Below w.heap.size w w':=by
 obtain⟨hg0,hw0⟩:=zau.new w x l h l2 h2
 have HG:=hid hg0
 have HW:=hid hw0
 have hck:=zar x
 unfold zbh at hck
 rw [he] at hck
 have dlh:decide (h < l)=false:=by simp;omega
 have dlh2:¬ h < l:=by omega
 have dk1:(x.kd == 1)=false:=by simp [hk]
 have dk2:(x.kd == 2)=false:=by simp [hk]
 have dk3:(x.kd == 3)=true:=by simp [hk]
 have dk6:(x.kd == 6)=false:=by simp [hk]
 have dk7:(x.kd == 7)=false:=by simp [hk]
 have dk8:(x.kd == 8)=false:=by simp [hk]
 have CS:=hid (fun w:World=>zbc x.WA x.BA x.nW x.cW x.nB x.cB (by omega) (by omega) w)
 rw [show decide (1≤x.nB∧x.nW % x.nB=0)=true by simp only [hs,and_self,decide_true]] at CS
 obtain⟨g,hg⟩:∃ g,decide (0 < x.P)=g:=⟨_,rfl⟩
 have CR:=hid (fun (w':World) (a:Below w.heap.size w w')=>zcd x.WA x.BA x.nW x.cW x.nB x.cB ws bs hL.lw hL.lb hL.iw hL.ib hL.cw.1 hL.cw.2 hW2 hB2 l h x.Z bd.1.1 bd.1.2 bd.2.1.1 bd.2.1.2 ok.1.1 ok.1.2 g (x.nW / x.nB) (za4 hs) hs.1 (lsW ws bs x.nW x.nB l h x.Z g) (grW ws bs x.nW x.nB l h x.Z g) rfl rfl w' ((hL.rw.below a).more a.size) ((hL.rb.below a).more a.size))
 rw [hg] at hf
 rw [hf] at CR
 generalize lsW ws bs x.nW x.nB l h x.Z g=X at CR
 generalize grW ws bs x.nW x.nB l h x.Z g=Y at CR
 have dp0:decide (x.P > 0)=g:=hg
 have CK:=hid hck
 clear hg0 hw0 hck he hk hs hL hW2 hB2 hf
 go_enter Tryz.func30,Tryz.ntmps30
 go_upto_region 1 with fail
 generalize ((((w.alloc (.cells x.val 61)).alloc (.cells #[.int .i8 l,.int .i8 h] 70)).alloc (.cells #[.int .i8 l2,.int .i8 h2] 70)).alloc (.cells #[.int .i8 0,.int .i8 0] 70))=W0 at HG HW ⊢
 have c0:=HG.out.1.at 0 _ rfl
 have c5:=HG.out.1.at 5 _ rfl
 have c7:=HG.out.1.at 7 _ rfl
 have c9:=HG.out.1.at 9 _ rfl
 have c10:=HG.out.1.at 10 _ rfl
 have c11:=HG.out.1.at 11 _ rfl
 have c12:=HG.out.1.at 12 _ rfl
 have c13:=HG.out.1.at 13 _ rfl
 have c17:=HG.out.1.at 17 _ rfl
 have c18:=HG.out.1.at 18 _ rfl
 obtain⟨a0,a1⟩:=HG.out.2.1
 obtain⟨b0,b1⟩:=HG.out.2.2.1
 go_wp2_with (refine zac rfl _ rfl w.heap.size x rfl HG.out.1 ?_)
 go_at_call 22
 refine (CK.out _).mono ?_
 rintro e w1 ⟨rfl,hb⟩
 replace HG:=hid (HG.out.below hb)
 replace HW:=hid (HW.out.trans (hb.mono HW.out.size))
 clear hb c0 c5 c7 c9 c10 c11 c12 c13 c17 c18 a0 a1 b0 b1
 have c0:=HG.out.1.at 0 _ rfl
 have c5:=HG.out.1.at 5 _ rfl
 have c7:=HG.out.1.at 7 _ rfl
 have c9:=HG.out.1.at 9 _ rfl
 have c10:=HG.out.1.at 10 _ rfl
 have c11:=HG.out.1.at 11 _ rfl
 have c12:=HG.out.1.at 12 _ rfl
 have c13:=HG.out.1.at 13 _ rfl
 have c17:=HG.out.1.at 17 _ rfl
 have c18:=HG.out.1.at 18 _ rfl
 obtain⟨a0,a1⟩:=HG.out.2.1
 obtain⟨b0,b1⟩:=HG.out.2.2.1
 go_wp2_with (refine zac rfl _ rfl w.heap.size x rfl HG.out.1 ?_)
 go_at_call 31
 refine (CS.out _).mono ?_
 rintro e w2 ⟨rfl,hw1⟩
 have hb:=zch hw1
 clear hw1
 replace HG:=hid (HG.out.below hb)
 replace HW:=hid (HW.out.trans (hb.mono HW.out.size))
 clear hb c0 c5 c7 c9 c10 c11 c12 c13 c17 c18 a0 a1 b0 b1
 have c0:=HG.out.1.at 0 _ rfl
 have c5:=HG.out.1.at 5 _ rfl
 have c7:=HG.out.1.at 7 _ rfl
 have c9:=HG.out.1.at 9 _ rfl
 have c10:=HG.out.1.at 10 _ rfl
 have c11:=HG.out.1.at 11 _ rfl
 have c12:=HG.out.1.at 12 _ rfl
 have c13:=HG.out.1.at 13 _ rfl
 have c17:=HG.out.1.at 17 _ rfl
 have c18:=HG.out.1.at 18 _ rfl
 obtain⟨a0,a1⟩:=HG.out.2.1
 obtain⟨b0,b1⟩:=HG.out.2.2.1
 go_wp2_with (refine zac rfl _ rfl w.heap.size x rfl HG.out.1 ?_)
 go_at_call 32
 refine (CR.out _ HW.out).mono ?_
 rintro e w3 ⟨rfl,m3,hw3⟩
 have hb:=quiet_b hw3
 clear hw3
 replace HG:=hid (HG.out.below hb)
 replace HW:=hid (HW.out.trans (hb.mono HW.out.size))
 clear hb c0 c5 c7 c9 c10 c11 c12 c13 c17 c18 a0 a1 b0 b1
 have c0:=HG.out.1.at 0 _ rfl
 have c5:=HG.out.1.at 5 _ rfl
 have c7:=HG.out.1.at 7 _ rfl
 have c9:=HG.out.1.at 9 _ rfl
 have c10:=HG.out.1.at 10 _ rfl
 have c11:=HG.out.1.at 11 _ rfl
 have c12:=HG.out.1.at 12 _ rfl
 have c13:=HG.out.1.at 13 _ rfl
 have c17:=HG.out.1.at 17 _ rfl
 have c18:=HG.out.1.at 18 _ rfl
 obtain⟨a0,a1⟩:=HG.out.2.1
 obtain⟨b0,b1⟩:=HG.out.2.2.1
 obtain⟨⟨z0,z1⟩,z2,z3⟩:=HG.out.2.2.2.1
 go_wp2_with (refine zac rfl _ rfl w.heap.size x rfl HG.out.1 ?_)
 refine bodyPost_ret (Kit.zaa rfl _ _ (w.heap.size+3) 0 [.int .i8 (0),.int .i8 (0)] _ rfl (Kit.zaq (by go_cell) (by go_cell)) Tryz.underlying70 rfl (by kernel_rfl)) rfl ?_
 exact⟨rfl,(HW.out.setCell (p:=⟨w.heap.size+3,0,none⟩) (by simp) _).setCell (p:=⟨w.heap.size+3,1,none⟩) (by simp) _⟩
end CGuard
end
end Go.Proofs.YtoffcaldhojjoaaGreatDoor
