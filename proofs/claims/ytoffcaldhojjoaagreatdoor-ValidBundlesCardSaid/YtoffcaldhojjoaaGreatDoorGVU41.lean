/- -/
import Derived.Test.YtoffcaldhojjoaaGreatDoorGVU40
open Go.Lib (hid)
open Nat (le_refl lt_of_succ_lt lt_succ_self)
set_option linter.unusedVariables false
set_option linter.unusedSimpArgs false
set_option maxRecDepth 100000
set_option maxHeartbeats 16000000
namespace Go.Proofs.YtoffcaldhojjoaaGreatDoor
namespace CConv
end CConv
namespace CDense
end CDense
namespace CFix
end CFix
namespace CGraph
end CGraph
namespace CKind
end CKind
namespace CSat
end CSat
namespace CSpan
end CSpan
namespace CTensor
end CTensor
open Go Go.ChangeShapes Go.WideShapes Go.ChangeAt Go.RowKit Go.Deep
section
namespace CCost
open Plain CSat CFix CShape CTensor CConv CKind CGraph CDense CBund
/-! ### what a block costs, in one form -/
def BkAt (B:Nat) (b:Bk) (w:World):Prop:=w.cell? ⟨B,0,none⟩=some (.slice b.A b.n b.c)∧w.cell? ⟨B,1,none⟩=some (.bool b.ex)∧w.cell? ⟨B,2,none⟩=some (.slice b.hd.WA b.hd.nW b.hd.cW)∧w.cell? ⟨B,3,none⟩=some (.slice b.hd.BA b.hd.nB b.hd.cB)∧w.cell? ⟨B,4,none⟩=some (.int .i32 b.hd.D)
theorem BkAt.new (b:Bk) (T:TypeId) (w:World):BkAt w.heap.size b (w.alloc (.cells b.val.toArray T)):=⟨Kit.zal _ _ _ _,Kit.zal _ _ _ _,Kit.zal _ _ _ _,Kit.zal _ _ _ _,Kit.zal _ _ _ _⟩
theorem BkAt.below {B B':Nat} {b:Bk} {w w':World} (h:BkAt B b w) (hB:B < B') (hb:Below B' w w'):BkAt B b w' :=
 ⟨(hb.cell (p:=⟨B,0,none⟩) hB).trans h.1,(hb.cell (p:=⟨B,1,none⟩) hB).trans h.2.1,(hb.cell (p:=⟨B,2,none⟩) hB).trans h.2.2.1,(hb.cell (p:=⟨B,3,none⟩) hB).trans h.2.2.2.1,(hb.cell (p:=⟨B,4,none⟩) hB).trans h.2.2.2.2⟩
end CCost
end
section
namespace CGuard
open Plain CSat CFix CShape CTensor CConv CSpan CKind CGraph CJoin
abbrev Rch:=Int × Int
def rch0:Rch:=(0,0)
def RBd (r:Rch):Prop:=(-128≤r.1∧r.1≤127)∧(-128≤r.2∧r.2≤127)
abbrev NdW:=Nd × List Int × List Int
def nodeG (y:NdW) (l:List Rch):Int × Int × Int:=gnZ y.1 y.2.1 y.2.2 (l.getD y.1.na.toNat rch0).1 (l.getD y.1.na.toNat rch0).2 (l.getD (sndZ y.1).toNat rch0).1 (l.getD (sndZ y.1).toNat rch0).2
def stopG (y:NdW) (l:List Rch):Int:=if zbp y.1 l.length=false then 8 else (nodeG y l).2.2
def nextR (y:NdW) (l:List Rch):Rch:=((nodeG y l).1,(nodeG y l).2.1)
def rcL (Y:Nat→NdW) (r0:Rch):Nat→List Rch
 | 0=>[r0]
 | k+1=>rcL Y r0 k ++ [nextR (Y k) (rcL Y r0 k)]
theorem rcL_len (Y:Nat→NdW) (r0:Rch) (k:Nat):(rcL Y r0 k).length=k+1:=by
 induction k with
 | zero=>rfl
 | succ k ih=>simp [rcL,ih]
def zbu (Y:Nat→NdW) (r0:Rch):Nat→Option (Nat × Int)
 | 0=>none
 | k+1=>match zbu Y r0 k with
   | some r=>some r
   | none=>if stopG (Y k) (rcL Y r0 k)=0 then none else some (k,stopG (Y k) (rcL Y r0 k))
theorem stopGA_go {Y:Nat→NdW} {r0:Rch} {k:Nat} (h:zbu Y r0 k=none) (hz:stopG (Y k) (rcL Y r0 k)=0):zbu Y r0 (k+1)=none:=by
 simp [zbu,h,hz]
theorem stopGA_end {Y:Nat→NdW} {r0:Rch} {k n:Nat} (hk:k < n) (h:zbu Y r0 k=none) (hz:stopG (Y k) (rcL Y r0 k)≠0):zbu Y r0 n=some (k,stopG (Y k) (rcL Y r0 k)):=by
 obtain⟨d,rfl⟩:∃ d,n=k+1+d:=⟨n - (k+1),by omega⟩
 clear hk
 induction d with
 | zero=>simp [zbu,h,hz]
 | succ d ih=>rw [show k+1+(d+1)=(k+1+d)+1 by omega,zbu,ih]
theorem gnZ_bd {w:World} {B:Nat} {x:Nd} (ok:NdOk w B x) (ws bs:List Int) {l h l2 h2:Int} (bd:(-128≤l∧l≤127)∧(-128≤h∧h≤127)∧(-128≤l2∧l2≤127)∧(-128≤h2∧h2≤127)) :
  RBd ((gnZ x ws bs l h l2 h2).1,(gnZ x ws bs l h l2 h2).2.1):=by
 have hz:=ok.z
 have hb:∀ a, -128≤heldZ a x.m1 x.s1 x.z1 x.lo x.hi∧heldZ a x.m1 x.s1 x.z1 x.lo x.hi≤127:=fun a=>heldZ_bds a _ _ _ _ _ ok.q.2.2.2.2.1.1 ok.q.2.2.2.2.1.2 ok.q.2.2.2.2.2.1.1 ok.q.2.2.2.2.2.1.2
 have ho:∀ p q, -128≤oneZ p q x.Z x.Y x.m1 x.s1 x.z1 x.m2 x.s2 x.lo x.hi∧oneZ p q x.Z x.Y x.m1 x.s1 x.z1 x.m2 x.s2 x.lo x.hi≤127:=by
  intro p q
  unfold oneZ
  repeat' split
  all_goals first | omega | exact⟨clampZ_lo ok.q.2.2.2.2.1.1 ok.q.2.2.2.2.2.1.1,clampZ_hi ok.q.2.2.2.2.1.2 ok.q.2.2.2.2.2.1.2⟩ | (unfold zbt;have q1:=ok.q.2.2.2.2.1;have q2:=ok.q.2.2.2.2.2.1;repeat' split) <;> omega
 unfold gnZ RBd
 split
 ·refine⟨⟨?_,?_⟩,?_,?_⟩ <;> simp only [] <;> omega
 ·split
  ·decide
  ·split
   ·split
    ·split
     ·exact⟨⟨Int.le_min.2 ⟨(hb _).1,(hb _).1⟩,Int.le_trans (Int.min_le_left _ _) (hb _).2⟩,⟨Int.le_trans (hb _).1 (Int.le_max_left _ _),Int.max_le.2 ⟨(hb _).2,(hb _).2⟩⟩⟩
     ·decide
    ·exact⟨⟨Int.le_min.2 ⟨(hb _).1,(hb _).1⟩,Int.le_trans (Int.min_le_left _ _) (hb _).2⟩,⟨Int.le_trans (hb _).1 (Int.le_max_left _ _),Int.max_le.2 ⟨(hb _).2,(hb _).2⟩⟩⟩
   ·split
    ·exact⟨ho _ _,ho _ _⟩
    ·split
     ·exact⟨hb _,hb _⟩
     ·split
      ·refine⟨⟨?_,?_⟩,?_,?_⟩ <;> simp only [] <;> omega
      ·exact⟨bd.1,bd.2.1⟩
theorem rcL_at {L:List Rch} {n k:Nat} (hn:L.length=n) (hk:k < n):∃ a,L[k]?=some a∧L.getD k rch0=a :=
 ⟨L[k]'(by omega),List.getElem?_eq_getElem _,by rw [List.getD,List.getElem?_eq_getElem (by omega)];rfl⟩
def rvV:List Rch→List Value
 | []=>[]
 | a :: r=>.int .i8 a.1 :: .int .i8 a.2 :: rvV r
theorem rvV_len:∀ L,(rvV L).length=L.length * 2
 | []=>rfl
 | a :: r=>by simp [rvV,rvV_len r];omega
theorem rvV_append:∀ L M,rvV (L ++ M)=rvV L ++ rvV M
 | [],M=>rfl
 | a :: r,M=>by simp [rvV,rvV_append r M]
theorem rvV_get:∀ (L:List Rch) (k:Nat) (a:Rch),L[k]?=some a→(rvV L)[k * 2]?=some (.int .i8 a.1)∧(rvV L)[k * 2+1]?=some (.int .i8 a.2)
 | [],k,a,h=>by simp at h
 | b :: r,0,a,h=>by simp at h;subst h;simp [rvV]
 | b :: r,k+1,a,h=>by
   obtain⟨h1,h2⟩:=rvV_get r k a (by simpa using h)
   rw [show (k+1) * 2=k * 2+1+1 by omega,rvV]
   refine⟨?_,?_⟩
   ·simpa using h1
   ·rw [show k * 2+1+1+1=(k * 2+1)+1+1 by omega];simpa using h2
theorem rv_cells {w:World} {B:Nat} {A:Option Addr} {L:List Rch} (h:Kit.Rd w B A (rvV L)) (hn:0 < L.length) :
  ∃ b o,A=some ⟨b,o,none⟩∧b < B∧∀ k a,L[k]?=some a→w.rangeAt b (o+k * 2) [.int .i8 a.1,.int .i8 a.2]:=by
 obtain⟨b,o,e,hb,hc⟩:=h.plain (by rw [rvV_len];omega)
 refine⟨b,o,e,hb,fun k a hk q v hq=>?_⟩
 obtain⟨h1,h2⟩:=rvV_get L k a hk
 match q,hq with
 | 0,hq=>simp at hq;subst hq;exact hc (k * 2) _ h1
 | 1,hq=>simp at hq;subst hq;rw [Nat.add_assoc];exact hc (k * 2+1) _ h2
theorem rcL_bd (Y:Nat→NdW) (r0:Rch) (h0:RBd r0):∀ k,(∀ j,j < k→∃ w B,NdOk w B (Y j).1)→∀ (q:Nat) (a:Rch),(rcL Y r0 k)[q]?=some a→RBd a:=by
 intro k
 induction k with
 | zero =>
   intro _ q a h
   match q,h with
   | 0,h=>simp [rcL] at h;subst h;exact h0
 | succ k ih =>
   intro hY q a h
   have ih':=ih (fun j hj=>hY j (by omega))
   have hd:∀ p,RBd ((rcL Y r0 k).getD p rch0):=by
    intro p
    by_cases hp:p < k+1
    ·obtain⟨a,h1,h2⟩:=rcL_at (rcL_len Y r0 k) hp
     rw [h2];exact ih' p a h1
    ·rw [List.getD,List.getElem?_eq_none (by rw [rcL_len];omega)];exact⟨⟨by decide,by decide⟩,by decide,by decide⟩
   rw [rcL] at h
   by_cases hq:q < (rcL Y r0 k).length
   ·rw [List.getElem?_append_left hq] at h;exact ih' q a h
   ·rw [List.getElem?_append_right (by omega)] at h
    obtain⟨w,B,hok⟩:=hY k (by omega)
    have:q - (rcL Y r0 k).length=0:=by
     cases e:q - (rcL Y r0 k).length with
     | zero=>rfl
     | succ d=>rw [e] at h;simp at h
    rw [this] at h
    simp at h
    subst h
    exact gnZ_bd hok _ _ ⟨(hd _).1,(hd _).2,(hd _).1,(hd _).2⟩
theorem cgn_chk {w:World} (x:Nd) (hx:x.Small) (hT:zan w) (l h l2 h2:Int) (bd:(-128≤l∧l≤127)∧(-128≤h∧h≤127)∧(-128≤l2∧l2≤127)∧(-128≤h2∧h2≤127)) (ok:NBd x.Z x.Y x.m1 x.z1 x.m2 x.z2 x.lo x.hi) (er:Int) (he:x.checkZ=er) (hne:er≠0) :
  Calls Tryz.prog 61 #[.agg x.val,.agg #[.int .i8 l,.int .i8 h],.agg #[.int .i8 l2,.int .i8 h2]] w fun e w'=>e=.returned (.tuple #[.agg #[.int .i8 (0),.int .i8 (0)],.int .i64 (er)])∧Below w.heap.size w w':=by
 obtain⟨hg0,hw0⟩:=zau.newC w x l h l2 h2
 have HG:=hid hg0
 have HW:=hid hw0
 have HT:=hid hT
 have hck:=fun (w:World) (hT:zan w)=>zbi x hx w hT
 rw [he] at hck
 have n1:(er != 0)=true:=by simpa using hne
 have CK:=hid hck
 clear hg0 hw0 hck hT he
 go_enter Tryz.func61,Tryz.ntmps61
 go_upto_region 1 with fail
 generalize (((w.alloc (.cells x.val 61)).alloc (.cells #[.int .i8 l,.int .i8 h] 82)).alloc (.cells #[.int .i8 l2,.int .i8 h2] 82)).alloc (.cells #[.int .i8 0,.int .i8 0] 82)=W0 at HG HW ⊢
 have c0:=HG.out.1.at 0 _ rfl
 have c5:=HG.out.1.at 5 _ rfl
 have c7:=HG.out.1.at 7 _ rfl
 obtain⟨a0,a1⟩:=HG.out.2.1
 obtain⟨b0,b1⟩:=HG.out.2.2.1
 go_wp2_with (refine zac rfl _ rfl w.heap.size x rfl HG.out.1 ?_)
 go_at_call 56
 refine (CK.out _ (HT.out.grown HW.out)).mono ?_
 rintro e w1 ⟨rfl,hb⟩
 replace HG:=hid (HG.out.below hb)
 replace HW:=hid (HW.out.trans (hb.mono HW.out.size))
 clear hb c0 c5 c7 a0 a1 b0 b1
 have c0:=HG.out.1.at 0 _ rfl
 have c5:=HG.out.1.at 5 _ rfl
 have c7:=HG.out.1.at 7 _ rfl
 obtain⟨a0,a1⟩:=HG.out.2.1
 obtain⟨b0,b1⟩:=HG.out.2.2.1
 obtain⟨⟨z0,z1⟩,z2,z3⟩:=HG.out.2.2.2.1
 go_wp2_with (refine zac rfl _ rfl w.heap.size x rfl HG.out.1 ?_)
 refine bodyPost_ret (Kit.zaa rfl _ _ (w.heap.size+3) 0 [.int .i8 (0),.int .i8 (0)] _ rfl (Kit.zaq (by go_cell) (by go_cell)) Tryz.underlying82 rfl (by kernel_rfl)) rfl ?_
 exact⟨rfl,(HW.out.setCell (p:=⟨w.heap.size+3,0,none⟩) (Nat.le_add_right _ _) _).setCell (p:=⟨w.heap.size+3,1,none⟩) (Nat.le_add_right _ _) _⟩
theorem cgn_same4 {w:World} (x:Nd) (hx:x.Small) (hT:zan w) (l h l2 h2:Int) (bd:(-128≤l∧l≤127)∧(-128≤h∧h≤127)∧(-128≤l2∧l2≤127)∧(-128≤h2∧h2≤127)) (ok:NBd x.Z x.Y x.m1 x.z1 x.m2 x.z2 x.lo x.hi) (he:x.checkZ=0) (hk:x.kd=4) (hlh:l≤h) :
  Calls Tryz.prog 61 #[.agg x.val,.agg #[.int .i8 l,.int .i8 h],.agg #[.int .i8 l2,.int .i8 h2]] w fun e w'=>e=.returned (.tuple #[.agg #[.int .i8 (l),.int .i8 (h)],.int .i64 (0)])∧Below w.heap.size w w':=by
 obtain⟨hg0,hw0⟩:=zau.newC w x l h l2 h2
 have HG:=hid hg0
 have HW:=hid hw0
 have HT:=hid hT
 have hck:=fun (w:World) (hT:zan w)=>zbi x hx w hT
 rw [he] at hck
 have CE1:=hid (fun w:World=>zbx l h w)
 rw [show decide (h < l)=false by simp;omega] at CE1
 have dk1:(x.kd == 1)=false:=by simp [hk]
 have dk2:(x.kd == 2)=false:=by simp [hk]
 have dk3:(x.kd == 3)=false:=by simp [hk]
 have dk6:(x.kd == 6)=false:=by simp [hk]
 have dk7:(x.kd == 7)=false:=by simp [hk]
 have dk8:(x.kd == 8)=false:=by simp [hk]
 have CK:=hid hck
 clear hg0 hw0 hck hT he hk hlh
 go_enter Tryz.func61,Tryz.ntmps61
 go_upto_region 1 with fail
 generalize (((w.alloc (.cells x.val 61)).alloc (.cells #[.int .i8 l,.int .i8 h] 82)).alloc (.cells #[.int .i8 l2,.int .i8 h2] 82)).alloc (.cells #[.int .i8 0,.int .i8 0] 82)=W0 at HG HW ⊢
 have c0:=HG.out.1.at 0 _ rfl
 have c5:=HG.out.1.at 5 _ rfl
 have c7:=HG.out.1.at 7 _ rfl
 obtain⟨a0,a1⟩:=HG.out.2.1
 obtain⟨b0,b1⟩:=HG.out.2.2.1
 go_wp2_with (refine zac rfl _ rfl w.heap.size x rfl HG.out.1 ?_)
 go_at_call 56
 refine (CK.out _ (HT.out.grown HW.out)).mono ?_
 rintro e w1 ⟨rfl,hb⟩
 replace HG:=hid (HG.out.below hb)
 replace HW:=hid (HW.out.trans (hb.mono HW.out.size))
 clear hb c0 c5 c7 a0 a1 b0 b1
 have c0:=HG.out.1.at 0 _ rfl
 have c5:=HG.out.1.at 5 _ rfl
 have c7:=HG.out.1.at 7 _ rfl
 obtain⟨a0,a1⟩:=HG.out.2.1
 obtain⟨b0,b1⟩:=HG.out.2.2.1
 go_wp2_with (refine zac rfl _ rfl w.heap.size x rfl HG.out.1 ?_)
 go_at_call 45
 refine (CE1.out _).mono ?_
 rintro e w2 ⟨rfl,hb⟩
 replace HG:=hid (HG.out.below hb)
 replace HW:=hid (HW.out.trans (hb.mono HW.out.size))
 clear hb c0 c5 c7 a0 a1 b0 b1
 have c0:=HG.out.1.at 0 _ rfl
 have c5:=HG.out.1.at 5 _ rfl
 have c7:=HG.out.1.at 7 _ rfl
 obtain⟨a0,a1⟩:=HG.out.2.1
 obtain⟨b0,b1⟩:=HG.out.2.2.1
 obtain⟨⟨z0,z1⟩,z2,z3⟩:=HG.out.2.2.2.1
 go_wp2_with (refine zac rfl _ rfl w.heap.size x rfl HG.out.1 ?_)
 refine bodyPost_ret (Kit.zaa rfl _ _ (w.heap.size+3) 0 [.int .i8 (l),.int .i8 (h)] _ rfl (Kit.zaq (by go_cell) (by go_cell)) Tryz.underlying82 rfl (by kernel_rfl)) rfl ?_
 exact⟨rfl,(HW.out.setCell (p:=⟨w.heap.size+3,0,none⟩) (Nat.le_add_right _ _) _).setCell (p:=⟨w.heap.size+3,1,none⟩) (Nat.le_add_right _ _) _⟩
theorem cgn_same5 {w:World} (x:Nd) (hx:x.Small) (hT:zan w) (l h l2 h2:Int) (bd:(-128≤l∧l≤127)∧(-128≤h∧h≤127)∧(-128≤l2∧l2≤127)∧(-128≤h2∧h2≤127)) (ok:NBd x.Z x.Y x.m1 x.z1 x.m2 x.z2 x.lo x.hi) (he:x.checkZ=0) (hk:x.kd=5) (hlh:l≤h) :
  Calls Tryz.prog 61 #[.agg x.val,.agg #[.int .i8 l,.int .i8 h],.agg #[.int .i8 l2,.int .i8 h2]] w fun e w'=>e=.returned (.tuple #[.agg #[.int .i8 (l),.int .i8 (h)],.int .i64 (0)])∧Below w.heap.size w w':=by
 obtain⟨hg0,hw0⟩:=zau.newC w x l h l2 h2
 have HG:=hid hg0
 have HW:=hid hw0
 have HT:=hid hT
 have hck:=fun (w:World) (hT:zan w)=>zbi x hx w hT
 rw [he] at hck
 have CE1:=hid (fun w:World=>zbx l h w)
 rw [show decide (h < l)=false by simp;omega] at CE1
 have dk1:(x.kd == 1)=false:=by simp [hk]
 have dk2:(x.kd == 2)=false:=by simp [hk]
 have dk3:(x.kd == 3)=false:=by simp [hk]
 have dk6:(x.kd == 6)=false:=by simp [hk]
 have dk7:(x.kd == 7)=false:=by simp [hk]
 have dk8:(x.kd == 8)=false:=by simp [hk]
 have CK:=hid hck
 clear hg0 hw0 hck hT he hk hlh
 go_enter Tryz.func61,Tryz.ntmps61
 go_upto_region 1 with fail
 generalize (((w.alloc (.cells x.val 61)).alloc (.cells #[.int .i8 l,.int .i8 h] 82)).alloc (.cells #[.int .i8 l2,.int .i8 h2] 82)).alloc (.cells #[.int .i8 0,.int .i8 0] 82)=W0 at HG HW ⊢
 have c0:=HG.out.1.at 0 _ rfl
 have c5:=HG.out.1.at 5 _ rfl
 have c7:=HG.out.1.at 7 _ rfl
 obtain⟨a0,a1⟩:=HG.out.2.1
 obtain⟨b0,b1⟩:=HG.out.2.2.1
 go_wp2_with (refine zac rfl _ rfl w.heap.size x rfl HG.out.1 ?_)
 go_at_call 56
 refine (CK.out _ (HT.out.grown HW.out)).mono ?_
 rintro e w1 ⟨rfl,hb⟩
 replace HG:=hid (HG.out.below hb)
 replace HW:=hid (HW.out.trans (hb.mono HW.out.size))
 clear hb c0 c5 c7 a0 a1 b0 b1
 have c0:=HG.out.1.at 0 _ rfl
 have c5:=HG.out.1.at 5 _ rfl
 have c7:=HG.out.1.at 7 _ rfl
 obtain⟨a0,a1⟩:=HG.out.2.1
 obtain⟨b0,b1⟩:=HG.out.2.2.1
 go_wp2_with (refine zac rfl _ rfl w.heap.size x rfl HG.out.1 ?_)
 go_at_call 45
 refine (CE1.out _).mono ?_
 rintro e w2 ⟨rfl,hb⟩
 replace HG:=hid (HG.out.below hb)
 replace HW:=hid (HW.out.trans (hb.mono HW.out.size))
 clear hb c0 c5 c7 a0 a1 b0 b1
 have c0:=HG.out.1.at 0 _ rfl
 have c5:=HG.out.1.at 5 _ rfl
 have c7:=HG.out.1.at 7 _ rfl
 obtain⟨a0,a1⟩:=HG.out.2.1
 obtain⟨b0,b1⟩:=HG.out.2.2.1
 obtain⟨⟨z0,z1⟩,z2,z3⟩:=HG.out.2.2.2.1
 go_wp2_with (refine zac rfl _ rfl w.heap.size x rfl HG.out.1 ?_)
 refine bodyPost_ret (Kit.zaa rfl _ _ (w.heap.size+3) 0 [.int .i8 (l),.int .i8 (h)] _ rfl (Kit.zaq (by go_cell) (by go_cell)) Tryz.underlying82 rfl (by kernel_rfl)) rfl ?_
 exact⟨rfl,(HW.out.setCell (p:=⟨w.heap.size+3,0,none⟩) (Nat.le_add_right _ _) _).setCell (p:=⟨w.heap.size+3,1,none⟩) (Nat.le_add_right _ _) _⟩
theorem NdL.belowG {w w':World} {x:Nd} {ws bs:List Int} (h:NdL w w.heap.size x ws bs) (hb:Below w.heap.size w w'):NdL w' w'.heap.size x ws bs :=
 ⟨CBund.NdOk.more (CBund.NdOk.below h.ok hb) hb.size,h.lw,h.lb,h.cw,h.iw,h.ib,(h.rw.below hb).more hb.size,(h.rb.below hb).more hb.size⟩
theorem cgnode_to {w:World} (x:Nd) (hx:x.Small) (hT:zan w) (l h l2 h2:Int) (bd:(-128≤l∧l≤127)∧(-128≤h∧h≤127)∧(-128≤l2∧l2≤127)∧(-128≤h2∧h2≤127)) (ws bs:List Int) (hL:NdL w w.heap.size x ws bs) (hW2:x.nW≤20000) (hB2:x.nB≤20000) :
  Calls Tryz.prog 61 #[.agg x.val,.agg #[.int .i8 l,.int .i8 h],.agg #[.int .i8 l2,.int .i8 h2]] w fun e w'=>e=.returned (.tuple #[.agg #[.int .i8 (gnZ x ws bs l h l2 h2).1,.int .i8 (gnZ x ws bs l h l2 h2).2.1],.int .i64 (gnZ x ws bs l h l2 h2).2.2])∧Below w.heap.size w w':=by
 have ok:=nbd_of hL.ok
 unfold gnZ
 by_cases hc:x.checkZ≠0
 ·rw [if_pos hc];exact cgn_chk x hx hT l h l2 h2 bd ok _ rfl hc
 ·rw [if_neg hc]
  have he:x.checkZ=0:=by omega
  have hkd:=check_kd he
  by_cases hlh:h < l
  ·rw [if_pos (.inl hlh)];exact cgn_arg x hx hT l h l2 h2 bd ok he hlh
  ·by_cases h6:x.kd=6∧h2 < l2
   ·rw [if_pos (.inr h6)];exact cgn_arg6 x hx hT l h l2 h2 bd ok he h6.1 (by omega) h6.2
   ·rw [if_neg (by omega)]
    by_cases hs3:x.kd=1∨x.kd=2∨x.kd=3
    ·rw [if_pos hs3]
     have CS:=fun (w':World) (hb:Below w.heap.size w w')=>csum_to (w:=w') x l h ⟨bd.1,bd.2.1⟩ ok ws bs (NdL.belowG hL hb) hW2 hB2
     change Calls _ _ _ _ fun e w'=>e=.returned (.tuple #[.agg #[.int .i8 (sgZ x ws bs l h).1,.int .i8 (sgZ x ws bs l h).2.1],.int .i64 (sgZ x ws bs l h).2.2])∧Below w.heap.size w w'
     rcases hs3 with k | k | k
     ·exact cgn_sum1 x hx hT l h l2 h2 bd ok he k (by omega) _ _ _ CS
     ·exact cgn_sum2 x hx hT l h l2 h2 bd ok he k (by omega) _ _ _ CS
     ·exact cgn_sum3 x hx hT l h l2 h2 bd ok he k (by omega) _ _ _ CS
    ·rw [if_neg hs3]
     by_cases k6:x.kd=6
     ·rw [if_pos k6];exact cgn_join x hx hT l h l2 h2 bd ok he k6 (by omega) (by omega)
     ·rw [if_neg k6]
      by_cases k7:x.kd=7
      ·rw [if_pos k7];exact cgn_act x hx hT l h l2 h2 bd ok he k7 (by omega)
      ·rw [if_neg k7]
       by_cases k8:x.kd=8∧0 < x.P
       ·rw [if_pos k8];exact cgn_pad x hx hT l h l2 h2 bd ok he k8.1 (by omega) _ _ (fun w=>bord_yes x l h k8.2 w)
       ·rw [if_neg k8]
        by_cases k9:x.kd=8
        ·exact cgn_pad x hx hT l h l2 h2 bd ok he k9 (by omega) _ _ (fun w=>bord_no x l h (fun h=>k8 ⟨k9,h⟩) w)
        ·have:x.kd=4∨x.kd=5∨x.kd=9:=by omega
         rcases this with k | k | k
         ·exact cgn_same4 x hx hT l h l2 h2 bd ok he k (by omega)
         ·exact cgn_same5 x hx hT l h l2 h2 bd ok he k (by omega)
         ·exact cgn_same9 x hx hT l h l2 h2 bd ok he k (by omega)
theorem ndl_of {w:World} {B:Nat} {x:Nd} (h:NdOk w B x):∃ p:List Int × List Int,NdL w B x p.1 p.2:=by
 obtain⟨zs,a1,a2,a3,a4,a5⟩:=h.ws
 obtain⟨ys,b1,b2,b3,b4,b5⟩:=h.bs
 refine⟨(zs,ys),⟨h,a1,b1,⟨a2,b2⟩,?_,?_,a5,b5⟩⟩
 ·intro q
  by_cases hq:q < zs.length
  ·have e:zs.getD q 0=zs[q]:=by rw [List.getD_eq_getElem?_getD,List.getElem?_eq_getElem hq];rfl
   rw [e]
   simpa [Lit.wf,IntKind.min,IntKind.max,IntKind.signed,IntKind.bits] using a4 _ (List.getElem_mem hq)
  ·rw [List.getD_eq_getElem?_getD,List.getElem?_eq_none (Nat.le_of_not_lt hq)];exact⟨by decide,by decide⟩
 ·intro q
  by_cases hq:q < ys.length
  ·have e:ys.getD q 0=ys[q]:=by rw [List.getD_eq_getElem?_getD,List.getElem?_eq_getElem hq];rfl
   rw [e]
   simpa [Lit.wf,IntKind.min,IntKind.max,IntKind.signed,IntKind.bits] using b4 _ (List.getElem_mem hq)
  ·rw [List.getD_eq_getElem?_getD,List.getElem?_eq_none (Nat.le_of_not_lt hq)];exact⟨by decide,by decide⟩
end CGuard
end
section
namespace CGraph
open Plain CSat CFix CShape CTensor CConv CKind
def FewPost2 (X:Nat→Nd) (n:Nat) (w:World) (e:Ending) (w':World):Prop:=∃ b:Bool,e=.returned (.bool b)∧(b=true→n≤12∧∀ i,i < n→(X i).nW≤1000∧(X i).nB≤100)∧Below w.heap.size w w'
theorem few2_to (X:Nat→Nd) (n c:Nat) (A:Option Addr) (w:World) (hA:NodesAt w w.heap.size A n X) :
  Calls Tryz.prog 10 #[.slice A n c,.agg #[.int .i64 0,.int .i64 0,.int .i64 0,.slice none 0 0]] w (FewPost2 X n w):=by
 have HA:=hid hA
 have HB0:=hid ((Below.refl w.heap.size w).alloc (le_refl _) (.cells #[.int .i64 0,.int .i64 0,.int .i64 0,.slice none 0 0] 48))
 have q3:(w.alloc (.cells #[.int .i64 0,.int .i64 0,.int .i64 0,.slice none 0 0] 48)).cell? ⟨w.heap.size,3,none⟩=some (.slice none 0 0):=by rw [Kit.zal];rfl
 clear hA
 go_enter Tryz.func10,Tryz.ntmps10
 go_upto_region 1 with fail
 generalize w.alloc (.cells #[.int .i64 0,.int .i64 0,.int .i64 0,.slice none 0 0] 48)=W0 at HB0 q3 ⊢
 by_cases h:n≤12
 ·have h2:¬ (n:Int) > 12:=by omega
  go_wp2_with fail
  go_loop [5] (fun u=>∃ i:Nat,i≤n∧u=.int .i64 i∧Hid (∀ j,j < i→(X j).nW≤1000∧(X j).nB≤100)) (fun u=>n - (intOf u).toNat)
  case atStart=>exact⟨0,Nat.zero_le _,rfl,hid (fun j hj=>by omega)⟩
  case round =>
   obtain⟨i,hi,rfl,HI⟩:=hrel
   by_cases hlt:i < n
   ·obtain⟨ba,oa,rfl,hba,hra⟩:=(HA.out.below HB0.out) i hlt
    have i1:(i:Int) < (n:Int):=by omega
    have ib:(0:Int)≤(i:Int):=by omega
    have c9:=hra 9 (.slice (X i).WA (X i).nW (X i).cW) rfl
    have c10:=hra 10 (.slice (X i).BA (X i).nB (X i).cB) rfl
    clear hra hba
    obtain⟨x,hx⟩:∃ x,X i=x:=⟨_,rfl⟩
    rw [hx] at c9 c10
    have HXX:=hid hx
    clear hx
    by_cases a1:(x.nW:Int) > 1000
    ·go_wp2_with fail
     go_ret
     exact⟨false,rfl,fun h=>(nomatch h),HB0.out⟩
    ·by_cases a2:(x.nB:Int) > 100
     ·go_wp2_with fail
      go_ret
      exact⟨false,rfl,fun h=>(nomatch h),HB0.out⟩
     ·go_wp2_with fail
      go_round
      case rel=>exact⟨i+1,by omega,by go_num,hid (fun j hj=>by
       rcases (show j < i∨j=i by omega) with h7 | rfl
       ·exact HI.out j h7
       ·rw [HXX.out];exact⟨by omega,by omega⟩)⟩
      case measure=>simp [intOf];omega
   ·obtain rfl:i=n:=by omega
    go_wp2_with fail
    go_ret
    exact⟨true,rfl,fun _=>⟨h,HI.out⟩,HB0.out⟩
 ·have h2:(n:Int) > 12:=by omega
  go_wp2_with fail
  go_ret
  exact⟨false,rfl,fun h=>(nomatch h),HB0.out⟩
end CGraph
end
end Go.Proofs.YtoffcaldhojjoaaGreatDoor
