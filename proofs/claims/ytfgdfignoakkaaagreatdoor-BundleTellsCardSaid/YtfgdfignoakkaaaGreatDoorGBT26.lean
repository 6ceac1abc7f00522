/- -/
import Derived.Test.YtfgdfignoakkaaaGreatDoorGBT23
import Derived.Test.YtfgdfignoakkaaaGreatDoorGBT25
open Go.Lib (hid)
open Nat (le_refl lt_of_succ_lt lt_succ_self)
set_option linter.unusedVariables false
set_option linter.unusedSimpArgs false
set_option maxRecDepth 100000
set_option maxHeartbeats 16000000
namespace Go.Proofs.YtfgdfignoakkaaaGreatDoor
namespace CConv
end CConv
namespace CFix
end CFix
namespace CGraph
end CGraph
namespace CJoin
end CJoin
namespace CKind
end CKind
namespace CSat
end CSat
namespace CShape
end CShape
namespace CSpan
end CSpan
namespace CTensor
end CTensor
open Go Go.ChangeShapes Go.WideShapes Go.ChangeAt Go.RowKit Go.Deep
section
namespace CGuard
open Plain CSat CFix CShape CTensor CConv CSpan CKind CGraph CJoin
structure NdL (w:World) (B:Nat) (x:Nd) (ws bs:List Int):Prop where
 ok:NdOk w B x
 lw:ws.length=x.nW
 lb:bs.length=x.nB
 cw:x.nW≤x.cW∧x.nB≤x.cB
 iw:I8b ws
 ib:∀ q, -2147483648≤bs.getD q 0∧bs.getD q 0≤2147483647
 rw:Kit.Rd w B x.WA (I8s ws)
 rb:Kit.Rd w B x.BA (I32v bs)
def FreshR (B:Nat) (wd:World):Prop :=
 (wd.cell? ⟨B,0,none⟩=some (.int .i8 0)∧wd.cell? ⟨B,1,none⟩=some (.int .i8 0))∧wd.frozen? ⟨B,0,none⟩=false∧wd.frozen? ⟨B,1,none⟩=false
theorem FreshR.new (T:TypeId) (w:World):FreshR w.heap.size (w.alloc (.cells #[.int .i8 0,.int .i8 0] T)) :=
 ⟨⟨Kit.zab _ _ _ _,Kit.zab _ _ _ _⟩,World.frozen?_alloc_at _ _ _ _ rfl,World.frozen?_alloc_at _ _ _ _ rfl⟩
theorem FreshR.below {B B':Nat} {w w':World} (h:FreshR B w) (hB:B < B') (hb:Below B' w w'):FreshR B w':=by
 obtain⟨⟨h1,h2⟩,h5,h6⟩:=h
 exact⟨⟨(hb.cell (p:=⟨B,0,none⟩) hB).trans h1,(hb.cell (p:=⟨B,1,none⟩) hB).trans h2⟩,(hb.frozen (p:=⟨B,0,none⟩) hB).trans h5,(hb.frozen (p:=⟨B,1,none⟩) hB).trans h6⟩
def za7 (g:Nat) (x:Nd) (l h l2 h2:Int) (wd:World):Prop:=NdAt g x wd∧RchAt (g+1) l h wd∧RchAt (g+2) l2 h2 wd∧FreshR (g+3) wd∧g+4≤wd.heap.size
theorem za7.below {g:Nat} {x:Nd} {l h l2 h2:Int} {w w':World} (q:za7 g x l h l2 h2 w) (hb:Below w.heap.size w w'):za7 g x l h l2 h2 w':=by
 obtain⟨q1,q2,q3,q4,q5⟩:=q
 exact⟨q1.below (B:=w.heap.size) (by omega) hb,q2.below (B':=w.heap.size) (by omega) hb,q3.below (B':=w.heap.size) (by omega) hb,q4.below (B':=w.heap.size) (by omega) hb,Nat.le_trans q5 hb.size⟩
theorem nd_other {g q i:Nat} {x:Nd} {u:Value} {w:World} (h:NdAt g x w) (hq:q≠g):NdAt g x (w.setCell ⟨q,i,none⟩ u):=fun j v hj=>(World.cell?_setCell_other _ _ _ _ (fun e=>by injection e;omega)).trans (h j v hj)
theorem zbn {g q i:Nat} {l h:Int} {u:Value} {w:World} (r:RchAt g l h w) (hq:q≠g):RchAt g l h (w.setCell ⟨q,i,none⟩ u) :=
 ⟨(World.cell?_setCell_other _ _ _ _ (fun e=>by injection e;omega)).trans r.1,(World.cell?_setCell_other _ _ _ _ (fun e=>by injection e;omega)).trans r.2⟩
theorem min_iteN (a b:Int):(if b < a then b else a)=min a b:=by split <;> omega
theorem max_iteN (a b:Int):(if a < b then b else a)=max a b:=by split <;> omega
theorem nbd_of {w:World} {B:Nat} {x:Nd} (h:NdOk w B x):NBd x.Z x.Y x.m1 x.z1 x.m2 x.z2 x.lo x.hi:=⟨h.z,h.q.2.2.2.2.2.2,h.q.1,h.q.2.2.1,h.q.2.1,h.q.2.2.2.1,h.q.2.2.2.2.1,h.q.2.2.2.2.2.1⟩
def gnZ (x:Nd) (ws bs:List Int) (l h l2 h2:Int):Int × Int × Int :=
 if x.checkZ≠0 then (0,0,x.checkZ) else if h < l∨(x.kd=6∧h2 < l2) then (0,0,2)
 else if x.kd=1∨x.kd=2∨x.kd=3 then
  (if 1≤x.nB∧x.nW % x.nB=0 then (if fitB (lsW ws bs x.nW x.nB l h x.Z (decide (0 < x.P))) (grW ws bs x.nW x.nB l h x.Z (decide (0 < x.P)))=true then (min (heldZ (c32 (lsW ws bs x.nW x.nB l h x.Z (decide (0 < x.P)))) x.m1 x.s1 x.z1 x.lo x.hi) (heldZ (c32 (grW ws bs x.nW x.nB l h x.Z (decide (0 < x.P)))) x.m1 x.s1 x.z1 x.lo x.hi),max (heldZ (c32 (lsW ws bs x.nW x.nB l h x.Z (decide (0 < x.P)))) x.m1 x.s1 x.z1 x.lo x.hi) (heldZ (c32 (grW ws bs x.nW x.nB l h x.Z (decide (0 < x.P)))) x.m1 x.s1 x.z1 x.lo x.hi),0) else (0,0,10)) else (min (heldZ (c32 (0)) x.m1 x.s1 x.z1 x.lo x.hi) (heldZ (c32 (0)) x.m1 x.s1 x.z1 x.lo x.hi),max (heldZ (c32 (0)) x.m1 x.s1 x.z1 x.lo x.hi) (heldZ (c32 (0)) x.m1 x.s1 x.z1 x.lo x.hi),0))
 else if x.kd=6 then (oneZ l l2 x.Z x.Y x.m1 x.s1 x.z1 x.m2 x.s2 x.lo x.hi,oneZ h h2 x.Z x.Y x.m1 x.s1 x.z1 x.m2 x.s2 x.lo x.hi,0) else if x.kd=7 then (heldZ (l - x.Z) x.m1 x.s1 x.z1 x.lo x.hi,heldZ (h - x.Z) x.m1 x.s1 x.z1 x.lo x.hi,0) else if x.kd=8∧0 < x.P then (min l x.Z,max h x.Z,0) else (l,h,0)
theorem check_kd {x:Nd} (h:x.checkZ=0):1≤x.kd∧x.kd≤9:=by
 unfold Nd.checkZ at h
 split at h
 ·cases h
 ·rename_i h1;omega
abbrev Rch:=Int × Int
def rch0:Rch:=(0,0)
def RBd (r:Rch):Prop:=(-128≤r.1∧r.1≤127)∧(-128≤r.2∧r.2≤127)
abbrev NdW:=Nd × List Int × List Int
def nodeG (y:NdW) (l:List Rch):Int × Int × Int:=gnZ y.1 y.2.1 y.2.2 (l.getD y.1.na.toNat rch0).1 (l.getD y.1.na.toNat rch0).2 (l.getD (sndZ y.1).toNat rch0).1 (l.getD (sndZ y.1).toNat rch0).2
def stopG (y:NdW) (l:List Rch):Int:=if zb2 y.1 l.length=false then 8 else (nodeG y l).2.2
def nextR (y:NdW) (l:List Rch):Rch:=((nodeG y l).1,(nodeG y l).2.1)
def rcL (Y:Nat→NdW) (r0:Rch):Nat→List Rch
 | 0=>[r0]
 | k+1=>rcL Y r0 k ++ [nextR (Y k) (rcL Y r0 k)]
theorem rcL_len (Y:Nat→NdW) (r0:Rch) (k:Nat):(rcL Y r0 k).length=k+1:=by
 induction k with
 | zero=>rfl
 | succ k ih=>simp [rcL,ih]
def zbo (Y:Nat→NdW) (r0:Rch):Nat→Option (Nat × Int)
 | 0=>none
 | k+1=>match zbo Y r0 k with
   | some r=>some r
   | none=>if stopG (Y k) (rcL Y r0 k)=0 then none else some (k,stopG (Y k) (rcL Y r0 k))
theorem stopGA_go {Y:Nat→NdW} {r0:Rch} {k:Nat} (h:zbo Y r0 k=none) (hz:stopG (Y k) (rcL Y r0 k)=0):zbo Y r0 (k+1)=none:=by
 simp [zbo,h,hz]
theorem stopGA_end {Y:Nat→NdW} {r0:Rch} {k n:Nat} (hk:k < n) (h:zbo Y r0 k=none) (hz:stopG (Y k) (rcL Y r0 k)≠0):zbo Y r0 n=some (k,stopG (Y k) (rcL Y r0 k)):=by
 obtain⟨d,rfl⟩:∃ d,n=k+1+d:=⟨n - (k+1),by omega⟩
 clear hk
 induction d with
 | zero=>simp [zbo,h,hz]
 | succ d ih=>rw [show k+1+(d+1)=(k+1+d)+1 by omega,zbo,ih]
theorem gnZ_bd {w:World} {B:Nat} {x:Nd} (ok:NdOk w B x) (ws bs:List Int) {l h l2 h2:Int} (bd:(-128≤l∧l≤127)∧(-128≤h∧h≤127)∧(-128≤l2∧l2≤127)∧(-128≤h2∧h2≤127)) :
  RBd ((gnZ x ws bs l h l2 h2).1,(gnZ x ws bs l h l2 h2).2.1):=by
 have hz:=ok.z
 have hb:∀ a, -128≤heldZ a x.m1 x.s1 x.z1 x.lo x.hi∧heldZ a x.m1 x.s1 x.z1 x.lo x.hi≤127:=fun a=>heldZ_bds a _ _ _ _ _ ok.q.2.2.2.2.1.1 ok.q.2.2.2.2.1.2 ok.q.2.2.2.2.2.1.1 ok.q.2.2.2.2.2.1.2
 have ho:∀ p q, -128≤oneZ p q x.Z x.Y x.m1 x.s1 x.z1 x.m2 x.s2 x.lo x.hi∧oneZ p q x.Z x.Y x.m1 x.s1 x.z1 x.m2 x.s2 x.lo x.hi≤127:=by
  intro p q
  unfold oneZ
  repeat' split
  all_goals first | omega | exact⟨clampZ_lo ok.q.2.2.2.2.1.1 ok.q.2.2.2.2.2.1.1,clampZ_hi ok.q.2.2.2.2.1.2 ok.q.2.2.2.2.2.1.2⟩ | (unfold zb1;have q1:=ok.q.2.2.2.2.1;have q2:=ok.q.2.2.2.2.2.1;repeat' split) <;> omega
 unfold gnZ RBd
 split
 ·refine⟨⟨?_,?_⟩,?_,?_⟩ <;> simp only [] <;> omega
 ·split
  ·decide
  ·split
   ·split
    ·split
     ·exact⟨⟨Int.le_min.2 ⟨(hb _).1,(hb _).1⟩,Int.le_trans (Int.min_le_left _ _) (hb _).2⟩,⟨Int.le_trans (hb _).1 (Int.le_max_left _ _),Int.max_le.2 ⟨(hb _).2,(hb _).2⟩⟩⟩
     ·decide
    ·exact⟨⟨Int.le_min.2 ⟨(hb _).1,(hb _).1⟩,Int.le_trans (Int.min_le_left _ _) (hb _).2⟩,⟨Int.le_trans (hb _).1 (Int.le_max_left _ _),Int.max_le.2 ⟨(hb _).2,(hb _).2⟩⟩⟩
   ·split
    ·exact⟨ho _ _,ho _ _⟩
    ·split
     ·exact⟨hb _,hb _⟩
     ·split
      ·refine⟨⟨?_,?_⟩,?_,?_⟩ <;> simp only [] <;> omega
      ·exact⟨bd.1,bd.2.1⟩
theorem rcL_at {L:List Rch} {n k:Nat} (hn:L.length=n) (hk:k < n):∃ a,L[k]?=some a∧L.getD k rch0=a :=
 ⟨L[k]'(by omega),List.getElem?_eq_getElem _,by rw [List.getD,List.getElem?_eq_getElem (by omega)];rfl⟩
def rvV:List Rch→List Value
 | []=>[]
 | a :: r=>.int .i8 a.1 :: .int .i8 a.2 :: rvV r
theorem rvV_len:∀ L,(rvV L).length=L.length * 2
 | []=>rfl
 | a :: r=>by simp [rvV,rvV_len r];omega
theorem rvV_append:∀ L M,rvV (L ++ M)=rvV L ++ rvV M
 | [],M=>rfl
 | a :: r,M=>by simp [rvV,rvV_append r M]
theorem rvV_get:∀ (L:List Rch) (k:Nat) (a:Rch),L[k]?=some a→(rvV L)[k * 2]?=some (.int .i8 a.1)∧(rvV L)[k * 2+1]?=some (.int .i8 a.2)
 | [],k,a,h=>by simp at h
 | b :: r,0,a,h=>by simp at h;subst h;simp [rvV]
 | b :: r,k+1,a,h=>by
   obtain⟨h1,h2⟩:=rvV_get r k a (by simpa using h)
   rw [show (k+1) * 2=k * 2+1+1 by omega,rvV]
   refine⟨?_,?_⟩
   ·simpa using h1
   ·rw [show k * 2+1+1+1=(k * 2+1)+1+1 by omega];simpa using h2
theorem rv_cells {w:World} {B:Nat} {A:Option Addr} {L:List Rch} (h:Kit.Rd w B A (rvV L)) (hn:0 < L.length) :
  ∃ b o,A=some ⟨b,o,none⟩∧b < B∧∀ k a,L[k]?=some a→w.rangeAt b (o+k * 2) [.int .i8 a.1,.int .i8 a.2]:=by
 obtain⟨b,o,e,hb,hc⟩:=h.plain (by rw [rvV_len];omega)
 refine⟨b,o,e,hb,fun k a hk q v hq=>?_⟩
 obtain⟨h1,h2⟩:=rvV_get L k a hk
 match q,hq with
 | 0,hq=>simp at hq;subst hq;exact hc (k * 2) _ h1
 | 1,hq=>simp at hq;subst hq;rw [Nat.add_assoc];exact hc (k * 2+1) _ h2
theorem rcL_bd (Y:Nat→NdW) (r0:Rch) (h0:RBd r0):∀ k,(∀ j,j < k→∃ w B,NdOk w B (Y j).1)→∀ (q:Nat) (a:Rch),(rcL Y r0 k)[q]?=some a→RBd a:=by
 intro k
 induction k with
 | zero =>
   intro _ q a h
   match q,h with
   | 0,h=>simp [rcL] at h;subst h;exact h0
 | succ k ih =>
   intro hY q a h
   have ih':=ih (fun j hj=>hY j (by omega))
   have hd:∀ p,RBd ((rcL Y r0 k).getD p rch0):=by
    intro p
    by_cases hp:p < k+1
    ·obtain⟨a,h1,h2⟩:=rcL_at (rcL_len Y r0 k) hp
     rw [h2];exact ih' p a h1
    ·rw [List.getD,List.getElem?_eq_none (by rw [rcL_len];omega)];exact⟨⟨by decide,by decide⟩,by decide,by decide⟩
   rw [rcL] at h
   by_cases hq:q < (rcL Y r0 k).length
   ·rw [List.getElem?_append_left hq] at h;exact ih' q a h
   ·rw [List.getElem?_append_right (by omega)] at h
    obtain⟨w,B,hok⟩:=hY k (by omega)
    have:q - (rcL Y r0 k).length=0:=by
     cases e:q - (rcL Y r0 k).length with
     | zero=>rfl
     | succ d=>rw [e] at h;simp at h
    rw [this] at h
    simp at h
    subst h
    exact gnZ_bd hok _ _ ⟨(hd _).1,(hd _).2,(hd _).1,(hd _).2⟩
end CGuard
end
section
namespace CSpan
open Plain CSat CFix CShape CTensor CConv
theorem cholds_to (A:Option Addr) (P Q:Nat→Int) (n c:Nat) (hn:n≤1000000) (w:World) (hr:Kit.Rd w w.heap.size A (pairV P Q n)) :
  Calls Tryz.prog 152 #[.slice A n c] w fun e w'=>e=.returned (.bool (holdF P Q n))∧Below w.heap.size w w':=by
 have HR:=hid hr
 have HB0:=hid (Below.refl w.heap.size w)
 clear hr
 go_enter Tryz.func152,Tryz.ntmps152
 go_wp2_with fail
 go_loopw [7] (fun u wr=>∃ k:Nat,k≤n∧u=.int .i64 k∧Hid (holdF P Q k=true)∧Hid (Below w.heap.size w wr)) (fun u _=>n - (intOf u).toNat)
 case atStart=>exact⟨0,Nat.zero_le _,rfl,hid rfl,HB0⟩
 case round =>
  obtain⟨k,hk,rfl,H,HB⟩:=hrel
  clear HB0
  by_cases hlt:k < n
  ·obtain⟨b,o,rfl,hb,hc⟩:=rd_pair HR.out (by omega)
   have hc0:=(HB.out.cell (p:=⟨b,o+k * 2,none⟩) hb).trans (hc k hlt).1
   have hc1:=(HB.out.cell (p:=⟨b,o+k * 2+1,none⟩) hb).trans (hc k hlt).2
   have hk0:(0:Int)≤(k:Int):=by omega
   have hkn:(k:Int) < (n:Int):=by omega
   have hst:holdF P Q (k+1)=(decide (-2147483648≤P k) && decide (Q k≤2147483647)):=by simp only [holdF];rw [H.out];rfl
   have HST:=hid hst
   have HF:=hid (holdF_iff P Q n)
   have HIF:=hid (show ¬ (-2147483648≤P k∧Q k≤2147483647)→holdF P Q n=false from fun h=>by
    rcases hh:holdF P Q n with _ | _
    ·rfl
    ·exact absurd ((holdF_iff P Q n).1 hh k hlt) h)
   clear hc hst
   generalize P k=x at hc0 HST HIF
   generalize Q k=y at hc1 HST HIF
   by_cases h1:x < -2147483648
   ·have HFF:=hid (HIF.out (by omega))
    go_wp2_with fail
    go_ret
    exact⟨by rw [HFF.out];rfl,HB.out.trans ((Below.refl _ _).alloc HB.out.size _)⟩
   ·by_cases h2:2147483647 < y
    ·have HFF:=hid (HIF.out (by omega))
     go_wp2_with fail
     go_ret
     exact⟨by rw [HFF.out];rfl,HB.out.trans ((Below.refl _ _).alloc HB.out.size _)⟩
    ·have h3:y≤2147483647:=by omega
     have h4 : -2147483648≤x:=by omega
     go_wp2_with fail
     go_roundw
     case rel=>exact⟨k+1,by omega,by go_num,hid (by rw [HST.out];simp [h3,h4]),hid (HB.out.trans ((Below.refl _ _).alloc HB.out.size _))⟩
     case measure=>simp [intOf];omega
  ·obtain rfl:k=n:=by omega
   go_wp2_with fail
   go_ret
   exact⟨by rw [H.out];rfl,HB.out⟩
theorem mnA_lo (P:Nat→Int) {k:Nat} (h:0 < k):mnA (P 0) P k=loF P k:=by
 induction k with
 | zero=>omega
 | succ k ih =>
   by_cases e:k=0
   ·subst e;simp [mnA,loF]
   ·rw [loF_more P (by omega), ← ih (by omega)];rfl
theorem mxA_hi (Q:Nat→Int) {k:Nat} (h:0 < k):mxA (Q 0) Q k=hiF Q k:=by
 induction k with
 | zero=>omega
 | succ k ih =>
   by_cases e:k=0
   ·subst e;simp [mxA,hiF]
   ·rw [hiF_more Q (by omega), ← ih (by omega)];rfl
theorem cboth_to (A:Option Addr) (P Q:Nat→Int) (n c:Nat) (hn:n≤1000000) (w:World) (hr:Kit.Rd w w.heap.size A (pairV P Q n)) :
  Calls Tryz.prog 179 #[.slice A n c] w fun e w'=>e=.returned (.agg #[.int .i64 (loF P n),.int .i64 (hiF Q n)])∧Below w.heap.size w w':=by
 have hal:Below w.heap.size w (w.alloc (.cells #[.int .i64 0,.int .i64 0] 264)):=(Below.refl _ _).alloc (le_refl _) _
 have hrb:=RBox.new 0 0 w
 have hsz:(w.alloc (.cells #[.int .i64 0,.int .i64 0] 264)).heap.size=w.heap.size+1:=by simp
 have HRB:=hid hrb
 have HAL:=hid hal
 have HSZ:=hid hsz
 clear hal hrb hsz
 rcases Nat.eq_zero_or_pos n with h0 | h0
 ·subst h0
  clear hr
  show Calls _ _ _ _ fun e w'=>e=.returned (.agg #[.int .i64 0,.int .i64 0])∧Below w.heap.size w w'
  go_enter Tryz.func179,Tryz.ntmps179
  obtain⟨c0,c1,f0,f1⟩:=HRB.out
  go_wp2_with fail
  refine bodyPost_ret (Kit.zau rfl _ _ w.heap.size 0 [.int .i64 0,.int .i64 0] _ rfl (Kit.zar (by go_cell) (by go_cell)) Tryz.underlying264 rfl (by kernel_rfl)) rfl ?_
  exact⟨rfl,HAL.out⟩
 ·obtain⟨b,o,rfl,hb,hc⟩:=rd_pair hr h0
  have HC:=hid hc
  have hc0:w.cell? ⟨b,o,none⟩=some (.int .i64 (P 0)):=by simpa using (hc 0 h0).1
  have hc1:w.cell? ⟨b,o+1,none⟩=some (.int .i64 (Q 0)):=by simpa using (hc 0 h0).2
  have hn0:((n:Int) == 0)=false:=by simp;omega
  have hn1:¬ (n:Int)=0:=by omega
  have hn2:(0:Int) < (n:Int):=by omega
  generalize hp0:P 0=p0 at hc0
  generalize hq0:Q 0=q0 at hc1
  have HP0:=hid hp0
  have HQ0:=hid hq0
  have b2:Below (w.heap.size+1) (w.alloc (.cells #[.int .i64 0,.int .i64 0] 264)) ((w.alloc (.cells #[.int .i64 0,.int .i64 0] 264)).alloc (.cells #[.int .i64 p0,.int .i64 q0] 264)):=(Below.refl _ _).alloc (by simp) _
  have r2:RBox (w.heap.size+1) p0 q0 ((w.alloc (.cells #[.int .i64 0,.int .i64 0] 264)).alloc (.cells #[.int .i64 p0,.int .i64 q0] 264)):=by
   have:=RBox.new p0 q0 (w.alloc (.cells #[.int .i64 0,.int .i64 0] 264))
   rw [HSZ.out] at this
   exact this
  have HR1:=hid (HRB.out.below (lt_succ_self _) b2)
  have HR2:=hid r2
  have HB:=hid (HAL.out.trans (b2.mono (Nat.le_succ _)))
  have HS:Hid (w.heap.size+2≤((w.alloc (.cells #[.int .i64 0,.int .i64 0] 264)).alloc (.cells #[.int .i64 p0,.int .i64 q0] 264)).heap.size):=hid (by simp)
  have H0:=hid h0
  clear hr hc hp0 hq0 b2 r2 HRB HAL HSZ h0
  go_enter Tryz.func179,Tryz.ntmps179
  go_wp2_with fail
  clear hn0 hn1 hn2 hc0 hc1
  generalize (w.alloc (.cells #[.int .i64 0,.int .i64 0] 264)).alloc (.cells #[.int .i64 p0,.int .i64 q0] 264)=W0 at HR1 HR2 HB HS ⊢
  go_loopw [15] (fun u wr=>∃ k:Nat,k≤n∧u=.int .i64 k∧Hid (RBox w.heap.size 0 0 wr)∧Hid (RBox (w.heap.size+1) (mnA p0 P k) (mxA q0 Q k) wr)∧Hid (Below w.heap.size w wr)∧Hid (w.heap.size+2≤wr.heap.size)) (fun u _=>n - (intOf u).toNat)
  case atStart=>exact⟨0,Nat.zero_le _,rfl,HR1,HR2,HB,HS⟩
  case round =>
   obtain⟨k,hk,rfl,R1,R2,RB,RS⟩:=hrel
   clear HR1 HR2 HB HS
   by_cases hlt:k < n
   ·have hk0:(0:Int)≤(k:Int):=by omega
    have hkn:(k:Int) < (n:Int):=by omega
    have hc0:wr.cell? ⟨b,o+k * 2,none⟩=some (.int .i64 (P k)):=(RB.out.cell (p:=⟨b,o+k * 2,none⟩) hb).trans (HC.out k hlt).1
    have hc1:wr.cell? ⟨b,o+k * 2+1,none⟩=some (.int .i64 (Q k)):=(RB.out.cell (p:=⟨b,o+k * 2+1,none⟩) hb).trans (HC.out k hlt).2
    have st1:mnA p0 P (k+1)=min (mnA p0 P k) (P k):=rfl
    have st2:mxA q0 Q (k+1)=max (mxA q0 Q k) (Q k):=rfl
    rw [← min_ite] at st1
    rw [← max_ite] at st2
    obtain⟨P1,hP1⟩:∃ X,mnA p0 P k=X:=⟨_,rfl⟩
    obtain⟨Q1,hQ1⟩:∃ X,mxA q0 Q k=X:=⟨_,rfl⟩
    obtain⟨P2,hP2⟩:∃ X,mnA p0 P (k+1)=X:=⟨_,rfl⟩
    obtain⟨Q2,hQ2⟩:∃ X,mxA q0 Q (k+1)=X:=⟨_,rfl⟩
    rw [hP1,hP2] at st1
    rw [hQ1,hQ2] at st2
    rw [hP1,hQ1] at R2
    have HP2:=hid hP2
    have HQ2:=hid hQ2
    clear hP1 hQ1 hP2 hQ2
    generalize P k=x at hc0 st1
    generalize Q k=y at hc1 st2
    have m1:=st1.symm
    have m2:=st2.symm
    clear st1 st2
    go_upto_region 7 with fail
    have hW:Below wr.heap.size wr (wr.alloc (.cells #[.int .i64 x,.int .i64 y] 264)):=(Below.refl _ _).alloc (le_refl _) _
    have R1':=hid (R1.out.below (by have:=RS.out;omega) hW)
    have R2':=hid (R2.out.below (by have:=RS.out;omega) hW)
    have RB':=hid (RB.out.trans (hW.mono RB.out.size))
    have RS':=hid (Nat.le_trans RS.out hW.size)
    have R3:=hid (RBox.new x y wr)
    obtain⟨r,hr⟩:∃ r,wr.heap.size=r:=⟨_,rfl⟩
    simp only [hr] at R3 ⊢
    generalize wr.alloc (.cells #[.int .i64 x,.int .i64 y] 264)=W3 at R1' R2' RB' RS' R3 ⊢
    have hgr:¬ w.heap.size+1=r:=by have:=RS.out;omega
    have hrg:¬ r=w.heap.size+1:=by have:=RS.out;omega
    clear R1 R2 RB RS hW hr hc0 hc1
    obtain⟨c0,c1,f0,f1⟩:=R2'.out
    obtain⟨d0,d1, -, -⟩:=R3.out
    go_region
    have N1:=hid ((R1'.out.set2o (q:=w.heap.size+1) (u:=.int .i64 P2) (v:=.int .i64 Q2) (by omega)).below (B:=(W3.setCell ⟨w.heap.size+1,0,none⟩ (.int .i64 P2)).setCell ⟨w.heap.size+1,1,none⟩ (.int .i64 Q2) |>.heap.size) (by have:=RS'.out;simp;omega) (Below.refl _ _).drew)
    have N2:=hid ((R2'.out.set2 (x:=P2) (y:=Q2)).below (B:=(W3.setCell ⟨w.heap.size+1,0,none⟩ (.int .i64 P2)).setCell ⟨w.heap.size+1,1,none⟩ (.int .i64 Q2) |>.heap.size) (by have:=RS'.out;simp;omega) (Below.refl _ _).drew)
    have N3:=hid (zbg RB'.out (g:=w.heap.size+1) (by omega) (.int .i64 P2) (.int .i64 Q2)).drew
    have N4:=hid (show w.heap.size+2≤((W3.setCell ⟨w.heap.size+1,0,none⟩ (.int .i64 P2)).setCell ⟨w.heap.size+1,1,none⟩ (.int .i64 Q2)).drew.heap.size by have:=RS'.out;simpa using this)
    clear R1' R2' RB' RS' R3 c0 c1 f0 f1 d0 d1 hgr hrg
    generalize ((W3.setCell ⟨w.heap.size+1,0,none⟩ (.int .i64 P2)).setCell ⟨w.heap.size+1,1,none⟩ (.int .i64 Q2)).drew=W4 at N1 N2 N3 N4 ⊢
    go_wp2_with fail
    go_roundw
    case rel=>exact⟨k+1,by omega,by go_num,N1,hid (by rw [HP2.out,HQ2.out];exact N2.out),N3,N4⟩
    case measure=>simp [intOf];omega
   ·obtain rfl:k=n:=by omega
    have hX:mnA p0 P k=loF P k:=by rw [← HP0.out];exact mnA_lo P H0.out
    have hY:mxA q0 Q k=hiF Q k:=by rw [← HQ0.out];exact mxA_hi Q H0.out
    rw [hX,hY] at R2
    obtain⟨X,hX2⟩:∃ X,loF P k=X:=⟨_,rfl⟩
    obtain⟨Y,hY2⟩:∃ Y,hiF Q k=Y:=⟨_,rfl⟩
    rw [hX2,hY2] at R2
    have HXX:=hid hX2
    have HYY:=hid hY2
    clear hX hY hX2 hY2
    obtain⟨c0,c1,f0,f1⟩:=R2.out
    obtain⟨d0,d1,g0,g1⟩:=R1.out
    go_wp2_with fail
    refine bodyPost_ret (Kit.zau rfl _ _ w.heap.size 0 [.int .i64 X,.int .i64 Y] _ rfl (Kit.zar (by go_cell) (by go_cell)) Tryz.underlying264 rfl (by kernel_rfl)) rfl ?_
    exact⟨by rw [HXX.out,HYY.out],zbg RB.out (le_refl _) _ _⟩
end CSpan
end
end Go.Proofs.YtfgdfignoakkaaaGreatDoor
