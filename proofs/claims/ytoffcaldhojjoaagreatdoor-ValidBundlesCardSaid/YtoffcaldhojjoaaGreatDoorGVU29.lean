/- -/
import Derived.Test.YtoffcaldhojjoaaGreatDoorGVU28
open Go.Lib (hid)
open Nat (le_refl lt_of_succ_lt lt_succ_self)
set_option linter.unusedVariables false
set_option linter.unusedSimpArgs false
set_option maxRecDepth 100000
set_option maxHeartbeats 16000000
namespace Go.Proofs.YtoffcaldhojjoaaGreatDoor
namespace CConv
end CConv
namespace CDense
end CDense
namespace CFix
end CFix
namespace CGraph
end CGraph
namespace CKind
end CKind
namespace CSat
end CSat
namespace CTensor
end CTensor
open Go Go.ChangeShapes Go.WideShapes Go.ChangeAt Go.RowKit Go.Deep
section
namespace CGraph
open Plain CSat CFix CShape CTensor CConv CKind CDense
theorem outS_few {X:Nat→Nd} {t0:Tri} {n:Nat} (h:outS X t0 n=none):1≤n∧n≤8:=by
 unfold outS at h
 split at h
 ·cases h
 ·split at h
  ·cases h
  ·rename_i hn
   split at h
   ·cases h
   ·rename_i hm;omega
end CGraph
end
section
namespace CCost
open Plain CSat CFix CShape CTensor CConv CKind CGraph CDense
def TriAt (B:Nat) (a:Tri) (w:World):Prop:=w.cell? ⟨B,0,none⟩=some (.int .i64 a.1)∧w.cell? ⟨B,1,none⟩=some (.int .i64 a.2.1)∧w.cell? ⟨B,2,none⟩=some (.int .i64 a.2.2)
theorem TriAt.new (a:Tri) (T:TypeId) (w:World):TriAt w.heap.size a (w.alloc (.cells #[.int .i64 a.1,.int .i64 a.2.1,.int .i64 a.2.2] T)):=⟨Kit.zal _ _ _ _,Kit.zal _ _ _ _,Kit.zal _ _ _ _⟩
theorem TriAt.below {B B':Nat} {a:Tri} {w w':World} (h:TriAt B a w) (hB:B < B') (hb:Below B' w w'):TriAt B a w' :=
 ⟨(hb.cell (p:=⟨B,0,none⟩) hB).trans h.1,(hb.cell (p:=⟨B,1,none⟩) hB).trans h.2.1,(hb.cell (p:=⟨B,2,none⟩) hB).trans h.2.2⟩
end CCost
end
section
namespace CCost
open Plain CSat CFix CShape CTensor CConv CKind CGraph CBund
def FewIs (b:Bool) (p:Prop):Prop:=b=true→p
end CCost
end
section
namespace CSpan
open Go Go.ChangeShapes Go.WideShapes Go.ChangeAt Go.RowKit
open Plain CSat CFix CShape CTensor CConv
def wsOf (ws:List Int) (each o:Nat):List Int:=(ws.drop (o * each)).take each
def rowP (ws bs:List Int) (lo hi z:Int) (g:Bool) (each o:Nat):Int:=bs.getD o 0+psum (dnF (wsOf ws each o) lo hi z g) each
def rowQ (ws bs:List Int) (lo hi z:Int) (g:Bool) (each o:Nat):Int:=bs.getD o 0+psum (upF (wsOf ws each o) lo hi z g) each
theorem wsOf_len {ws:List Int} {n nB each o:Nat} (hn:ws.length=n) (h:each * nB=n) (ho:o < nB):(wsOf ws each o).length=each:=by
 have h1:(o+1) * each≤nB * each:=Nat.mul_le_mul_right _ ho
 rw [Nat.mul_comm nB,h,Nat.add_mul,Nat.one_mul] at h1
 unfold wsOf
 rw [List.length_take,List.length_drop,hn]
 omega
theorem wsOf_I8b {ws:List Int} (h:I8b ws) (each o:Nat):I8b (wsOf ws each o):=fun q=>by
 unfold wsOf
 rw [List.getD_eq_getElem?_getD,List.getElem?_take]
 split
 ·rw [List.getElem?_drop, ← List.getD_eq_getElem?_getD];exact h _
 ·simp
theorem rowPQ_bd {ws bs:List Int} (hw:I8b ws) (hb:∀ q, -2147483648≤bs.getD q 0∧bs.getD q 0≤2147483647) {lo hi z:Int} (l1 : -128≤lo) (l2:lo≤127) (h1 : -128≤hi) (h2:hi≤127) (z1 : -128≤z) (z2:z≤127) (g:Bool) {each:Nat} (he:each≤1000000) (o:Nat) :
  (-40000000000≤rowP ws bs lo hi z g each o∧rowP ws bs lo hi z g each o≤40000000000)∧(-40000000000≤rowQ ws bs lo hi z g each o∧rowQ ws bs lo hi z g each o≤40000000000):=by
 have a:=psum_bd (G:=dnF (wsOf ws each o) lo hi z g) (b:=32640) (n:=each) (fun j _=>dnF_bd (wsOf_I8b hw each o) l1 l2 h1 h2 z1 z2 g j)
 have b:=psum_bd (G:=upF (wsOf ws each o) lo hi z g) (b:=32640) (n:=each) (fun j _=>upF_bd (wsOf_I8b hw each o) l1 l2 h1 h2 z1 z2 g j)
 have c:=hb o
 unfold rowP rowQ
 omega
end CSpan
end
section
namespace CAct
open Plain CSat CFix CShape CTensor CConv
def NBd (Z Y m1 z1 m2 z2 lo hi:Int):Prop:=(-128≤Z∧Z≤127)∧(-128≤Y∧Y≤127)∧(-2147483648≤m1∧m1≤2147483647)∧(-128≤z1∧z1≤127)∧(-2147483648≤m2∧m2≤2147483647)∧(-128≤z2∧z2≤127)∧(-128≤lo∧lo≤127)∧(-128≤hi∧hi≤127)
theorem aone_to (x:Int) (hx1 : -128≤x) (hx2:x≤127) (x0 x1 x2:Value) (K S P O Z Y:Int) (WA BA:Option Addr) (nW cW nB cB:Nat) (m1 s1 z1 m2 s2 z2 lo hi:Int) (hnb:NBd Z Y m1 z1 m2 z2 lo hi) (R:Int) (hR:heldZ (x - Z) m1 s1 z1 lo hi=R) (w:World) :
  Calls Tryz.prog 82 #[.int .i8 x,.agg #[x0,x1,x2,.int .i64 K,.int .i64 S,.int .i64 P,.int .i64 O,.int .i8 Z,.int .i8 Y,.slice WA nW cW,.slice BA nB cB,.int .i32 m1,.int .i64 s1,.int .i8 z1,.int .i32 m2,.int .i64 s2,.int .i8 z2,.int .i8 lo,.int .i8 hi]] w fun e w'=>e=.returned (.int .i8 R)∧Below w.heap.size w w':=by
 obtain⟨⟨hZ1,hZ2⟩, -,⟨hm3,hm1⟩,⟨hz1,hz2⟩, -, -,⟨hl1,hl2⟩,⟨hh1,hh2⟩⟩:=hnb
 have e1:IntKind.i32.wrap x=x:=IntWalk.i32_in _ (by omega)
 have e2:IntKind.i32.wrap Z=Z:=IntWalk.i32_in _ (by omega)
 have e3:IntKind.i32.wrap (x - Z)=x - Z:=IntWalk.i32_in _ (by omega)
 have hal:Below w.heap.size w (w.alloc (.cells #[x0,x1,x2,.int .i64 K,.int .i64 S,.int .i64 P,.int .i64 O,.int .i8 Z,.int .i8 Y,.slice WA nW cW,.slice BA nB cB,.int .i32 m1,.int .i64 s1,.int .i8 z1,.int .i32 m2,.int .i64 s2,.int .i8 z2,.int .i8 lo,.int .i8 hi] 61)):=(Below.refl _ _).alloc (le_refl _) _
 have HAL:=hid hal
 have HR:=hid hR
 have TN:=zay.new x0 x1 x2 (.int .i8 Y) (.int .i32 m1) (.int .i64 s1) (.int .i8 z1) (.int .i32 m2) (.int .i64 s2) (.int .i8 z2) (.int .i8 lo) (.int .i8 hi) K S P O Z WA BA nW cW nB cB 61 w
 clear hal hR
 go_enter Tryz.func82,Tryz.ntmps82
 have n7:=TN.at 7 _ rfl
 have n11:=TN.at 11 _ rfl
 have n12:=TN.at 12 _ rfl
 have n13:=TN.at 13 _ rfl
 have n17:=TN.at 17 _ rfl
 have n18:=TN.at 18 _ rfl
 clear TN
 go_wp2_with (go_at_call 95;(refine (held _ _ _ _ _ _ (by omega) (by omega) hm3 hm1 hz1 hz2 hl1 hl2 hh1 hh2 _).mono ?_);rintro e w1 ⟨rfl,hb⟩)
 go_ret
 exact⟨congrArg (fun z=>Ending.returned (.int .i8 z)) HR.out,HAL.out.trans (hb.mono HAL.out.size)⟩
theorem aref_to (x:Int) (hx1 : -128≤x) (hx2:x≤127) (x0 x1 x2:Value) (K S P O Z Y:Int) (WA BA:Option Addr) (nW cW nB cB:Nat) (m1 s1 z1 m2 s2 z2 lo hi:Int) (hnb:NBd Z Y m1 z1 m2 z2 lo hi) (R:Int) (hR:heldZ (x - Z) m1 s1 z1 lo hi=R) (w:World) :
  Calls Tryz.prog 52 #[.int .i8 x,.agg #[x0,x1,x2,.int .i64 K,.int .i64 S,.int .i64 P,.int .i64 O,.int .i8 Z,.int .i8 Y,.slice WA nW cW,.slice BA nB cB,.int .i32 m1,.int .i64 s1,.int .i8 z1,.int .i32 m2,.int .i64 s2,.int .i8 z2,.int .i8 lo,.int .i8 hi]] w fun e w'=>e=.returned (.int .i8 R)∧Below w.heap.size w w':=by
 obtain⟨⟨hZ1,hZ2⟩, -,⟨hm3,hm1⟩,⟨hz1,hz2⟩, -, -,⟨hl1,hl2⟩,⟨hh1,hh2⟩⟩:=hnb
 have e1:IntKind.i32.wrap x=x:=IntWalk.i32_in _ (by omega)
 have e2:IntKind.i32.wrap Z=Z:=IntWalk.i32_in _ (by omega)
 have e3:IntKind.i32.wrap (x - Z)=x - Z:=IntWalk.i32_in _ (by omega)
 have hal:Below w.heap.size w (w.alloc (.cells #[x0,x1,x2,.int .i64 K,.int .i64 S,.int .i64 P,.int .i64 O,.int .i8 Z,.int .i8 Y,.slice WA nW cW,.slice BA nB cB,.int .i32 m1,.int .i64 s1,.int .i8 z1,.int .i32 m2,.int .i64 s2,.int .i8 z2,.int .i8 lo,.int .i8 hi] 61)):=(Below.refl _ _).alloc (le_refl _) _
 have HAL:=hid hal
 have HR:=hid hR
 have TN:=zay.new x0 x1 x2 (.int .i8 Y) (.int .i32 m1) (.int .i64 s1) (.int .i8 z1) (.int .i32 m2) (.int .i64 s2) (.int .i8 z2) (.int .i8 lo) (.int .i8 hi) K S P O Z WA BA nW cW nB cB 61 w
 clear hal hR
 go_enter Tryz.func52,Tryz.ntmps52
 have n7:=TN.at 7 _ rfl
 have n11:=TN.at 11 _ rfl
 have n12:=TN.at 12 _ rfl
 have n13:=TN.at 13 _ rfl
 have n17:=TN.at 17 _ rfl
 have n18:=TN.at 18 _ rfl
 clear TN
 go_wp2_with (go_at_call 65;(refine (refHeldQ _ _ _ _ _ _ (by omega) (by omega) hm3 hm1 hz1 hz2 hl1 hl2 hh1 hh2 _).mono ?_);rintro e w1 ⟨rfl,hb⟩)
 go_ret
 exact⟨congrArg (fun z=>Ending.returned (.int .i8 z)) HR.out,HAL.out.trans (hb.mono HAL.out.size)⟩
end CAct
end
section
namespace CSpan
open Plain CSat CFix CShape CTensor CConv
theorem cholds_to (A:Option Addr) (P Q:Nat→Int) (n c:Nat) (hn:n≤1000000) (w:World) (hr:Kit.Rd w w.heap.size A (pairV P Q n)) :
  Calls Tryz.prog 64 #[.slice A n c] w fun e w'=>e=.returned (.bool (holdF P Q n))∧Below w.heap.size w w':=by
 have HR:=hid hr
 have HB0:=hid (Below.refl w.heap.size w)
 clear hr
 go_enter Tryz.func64,Tryz.ntmps64
 go_wp2_with fail
 go_loopw [7] (fun u wr=>∃ k:Nat,k≤n∧u=.int .i64 k∧Hid (holdF P Q k=true)∧Hid (Below w.heap.size w wr)) (fun u _=>n - (intOf u).toNat)
 case atStart=>exact⟨0,Nat.zero_le _,rfl,hid rfl,HB0⟩
 case round =>
  obtain⟨k,hk,rfl,H,HB⟩:=hrel
  clear HB0
  by_cases hlt:k < n
  ·obtain⟨b,o,rfl,hb,hc⟩:=rd_pair HR.out (by omega)
   have hc0:=(HB.out.cell (p:=⟨b,o+k * 2,none⟩) hb).trans (hc k hlt).1
   have hc1:=(HB.out.cell (p:=⟨b,o+k * 2+1,none⟩) hb).trans (hc k hlt).2
   have hk0:(0:Int)≤(k:Int):=by omega
   have hkn:(k:Int) < (n:Int):=by omega
   have hst:holdF P Q (k+1)=(decide (-2147483648≤P k) && decide (Q k≤2147483647)):=by simp only [holdF];rw [H.out];rfl
   have HST:=hid hst
   have HF:=hid (holdF_iff P Q n)
   have HIF:=hid (show ¬ (-2147483648≤P k∧Q k≤2147483647)→holdF P Q n=false from fun h=>by
    rcases hh:holdF P Q n with _ | _
    ·rfl
    ·exact absurd ((holdF_iff P Q n).1 hh k hlt) h)
   clear hc hst
   generalize P k=x at hc0 HST HIF
   generalize Q k=y at hc1 HST HIF
   by_cases h1:x < -2147483648
   ·have HFF:=hid (HIF.out (by omega))
    go_wp2_with fail
    go_ret
    exact⟨by rw [HFF.out];rfl,HB.out.trans ((Below.refl _ _).alloc HB.out.size _)⟩
   ·by_cases h2:2147483647 < y
    ·have HFF:=hid (HIF.out (by omega))
     go_wp2_with fail
     go_ret
     exact⟨by rw [HFF.out];rfl,HB.out.trans ((Below.refl _ _).alloc HB.out.size _)⟩
    ·have h3:y≤2147483647:=by omega
     have h4 : -2147483648≤x:=by omega
     go_wp2_with fail
     go_roundw
     case rel=>exact⟨k+1,by omega,by go_num,hid (by rw [HST.out];simp [h3,h4]),hid (HB.out.trans ((Below.refl _ _).alloc HB.out.size _))⟩
     case measure=>simp [intOf];omega
  ·obtain rfl:k=n:=by omega
   go_wp2_with fail
   go_ret
   exact⟨by rw [H.out];rfl,HB.out⟩
theorem mnA_lo (P:Nat→Int) {k:Nat} (h:0 < k):mnA (P 0) P k=loF P k:=by
 induction k with
 | zero=>omega
 | succ k ih =>
   by_cases e:k=0
   ·subst e;simp [mnA,loF]
   ·rw [loF_more P (by omega), ← ih (by omega)];rfl
theorem mxA_hi (Q:Nat→Int) {k:Nat} (h:0 < k):mxA (Q 0) Q k=hiF Q k:=by
 induction k with
 | zero=>omega
 | succ k ih =>
   by_cases e:k=0
   ·subst e;simp [mxA,hiF]
   ·rw [hiF_more Q (by omega), ← ih (by omega)];rfl
theorem cboth_to (A:Option Addr) (P Q:Nat→Int) (n c:Nat) (hn:n≤1000000) (w:World) (hr:Kit.Rd w w.heap.size A (pairV P Q n)) :
  Calls Tryz.prog 91 #[.slice A n c] w fun e w'=>e=.returned (.agg #[.int .i64 (loF P n),.int .i64 (hiF Q n)])∧Below w.heap.size w w':=by
 have hal:Below w.heap.size w (w.alloc (.cells #[.int .i64 0,.int .i64 0] 144)):=(Below.refl _ _).alloc (le_refl _) _
 have hrb:=RBox.new 0 0 w
 have hsz:(w.alloc (.cells #[.int .i64 0,.int .i64 0] 144)).heap.size=w.heap.size+1:=by simp
 have HRB:=hid hrb
 have HAL:=hid hal
 have HSZ:=hid hsz
 clear hal hrb hsz
 rcases Nat.eq_zero_or_pos n with h0 | h0
 ·subst h0
  clear hr
  show Calls _ _ _ _ fun e w'=>e=.returned (.agg #[.int .i64 0,.int .i64 0])∧Below w.heap.size w w'
  go_enter Tryz.func91,Tryz.ntmps91
  obtain⟨c0,c1,f0,f1⟩:=HRB.out
  go_wp2_with fail
  refine bodyPost_ret (Kit.zat rfl _ _ w.heap.size 0 [.int .i64 0,.int .i64 0] _ rfl (Kit.zaq (by go_cell) (by go_cell)) Tryz.underlying144 rfl (by kernel_rfl)) rfl ?_
  exact⟨rfl,HAL.out⟩
 ·obtain⟨b,o,rfl,hb,hc⟩:=rd_pair hr h0
  have HC:=hid hc
  have hc0:w.cell? ⟨b,o,none⟩=some (.int .i64 (P 0)):=by simpa using (hc 0 h0).1
  have hc1:w.cell? ⟨b,o+1,none⟩=some (.int .i64 (Q 0)):=by simpa using (hc 0 h0).2
  have hn0:((n:Int) == 0)=false:=by simp;omega
  have hn1:¬ (n:Int)=0:=by omega
  have hn2:(0:Int) < (n:Int):=by omega
  generalize hp0:P 0=p0 at hc0
  generalize hq0:Q 0=q0 at hc1
  have HP0:=hid hp0
  have HQ0:=hid hq0
  have b2:Below (w.heap.size+1) (w.alloc (.cells #[.int .i64 0,.int .i64 0] 144)) ((w.alloc (.cells #[.int .i64 0,.int .i64 0] 144)).alloc (.cells #[.int .i64 p0,.int .i64 q0] 144)):=(Below.refl _ _).alloc (by simp) _
  have r2:RBox (w.heap.size+1) p0 q0 ((w.alloc (.cells #[.int .i64 0,.int .i64 0] 144)).alloc (.cells #[.int .i64 p0,.int .i64 q0] 144)):=by
   have:=RBox.new p0 q0 (w.alloc (.cells #[.int .i64 0,.int .i64 0] 144))
   rw [HSZ.out] at this
   exact this
  have HR1:=hid (HRB.out.below (lt_succ_self _) b2)
  have HR2:=hid r2
  have HB:=hid (HAL.out.trans (b2.mono (Nat.le_succ _)))
  have HS:Hid (w.heap.size+2≤((w.alloc (.cells #[.int .i64 0,.int .i64 0] 144)).alloc (.cells #[.int .i64 p0,.int .i64 q0] 144)).heap.size):=hid (by simp)
  have H0:=hid h0
  clear hr hc hp0 hq0 b2 r2 HRB HAL HSZ h0
  go_enter Tryz.func91,Tryz.ntmps91
  go_wp2_with fail
  clear hn0 hn1 hn2 hc0 hc1
  generalize (w.alloc (.cells #[.int .i64 0,.int .i64 0] 144)).alloc (.cells #[.int .i64 p0,.int .i64 q0] 144)=W0 at HR1 HR2 HB HS ⊢
  go_loopw [15] (fun u wr=>∃ k:Nat,k≤n∧u=.int .i64 k∧Hid (RBox w.heap.size 0 0 wr)∧Hid (RBox (w.heap.size+1) (mnA p0 P k) (mxA q0 Q k) wr)∧Hid (Below w.heap.size w wr)∧Hid (w.heap.size+2≤wr.heap.size)) (fun u _=>n - (intOf u).toNat)
  case atStart=>exact⟨0,Nat.zero_le _,rfl,HR1,HR2,HB,HS⟩
  case round =>
   obtain⟨k,hk,rfl,R1,R2,RB,RS⟩:=hrel
   clear HR1 HR2 HB HS
   by_cases hlt:k < n
   ·have hk0:(0:Int)≤(k:Int):=by omega
    have hkn:(k:Int) < (n:Int):=by omega
    have hc0:wr.cell? ⟨b,o+k * 2,none⟩=some (.int .i64 (P k)):=(RB.out.cell (p:=⟨b,o+k * 2,none⟩) hb).trans (HC.out k hlt).1
    have hc1:wr.cell? ⟨b,o+k * 2+1,none⟩=some (.int .i64 (Q k)):=(RB.out.cell (p:=⟨b,o+k * 2+1,none⟩) hb).trans (HC.out k hlt).2
    have st1:mnA p0 P (k+1)=min (mnA p0 P k) (P k):=rfl
    have st2:mxA q0 Q (k+1)=max (mxA q0 Q k) (Q k):=rfl
    rw [← min_ite] at st1
    rw [← max_ite] at st2
    obtain⟨P1,hP1⟩:∃ X,mnA p0 P k=X:=⟨_,rfl⟩
    obtain⟨Q1,hQ1⟩:∃ X,mxA q0 Q k=X:=⟨_,rfl⟩
    obtain⟨P2,hP2⟩:∃ X,mnA p0 P (k+1)=X:=⟨_,rfl⟩
    obtain⟨Q2,hQ2⟩:∃ X,mxA q0 Q (k+1)=X:=⟨_,rfl⟩
    rw [hP1,hP2] at st1
    rw [hQ1,hQ2] at st2
    rw [hP1,hQ1] at R2
    have HP2:=hid hP2
    have HQ2:=hid hQ2
    clear hP1 hQ1 hP2 hQ2
    generalize P k=x at hc0 st1
    generalize Q k=y at hc1 st2
    have m1:=st1.symm
    have m2:=st2.symm
    clear st1 st2
    go_upto_region 7 with fail
    have hW:Below wr.heap.size wr (wr.alloc (.cells #[.int .i64 x,.int .i64 y] 144)):=(Below.refl _ _).alloc (le_refl _) _
    have R1':=hid (R1.out.below (by have:=RS.out;omega) hW)
    have R2':=hid (R2.out.below (by have:=RS.out;omega) hW)
    have RB':=hid (RB.out.trans (hW.mono RB.out.size))
    have RS':=hid (Nat.le_trans RS.out hW.size)
    have R3:=hid (RBox.new x y wr)
    obtain⟨r,hr⟩:∃ r,wr.heap.size=r:=⟨_,rfl⟩
    simp only [hr] at R3 ⊢
    generalize wr.alloc (.cells #[.int .i64 x,.int .i64 y] 144)=W3 at R1' R2' RB' RS' R3 ⊢
    have hgr:¬ w.heap.size+1=r:=by have:=RS.out;omega
    have hrg:¬ r=w.heap.size+1:=by have:=RS.out;omega
    clear R1 R2 RB RS hW hr hc0 hc1
    obtain⟨c0,c1,f0,f1⟩:=R2'.out
    obtain⟨d0,d1, -, -⟩:=R3.out
    go_region
    have N1:=hid ((R1'.out.set2o (q:=w.heap.size+1) (u:=.int .i64 P2) (v:=.int .i64 Q2) (by omega)).below (B:=(W3.setCell ⟨w.heap.size+1,0,none⟩ (.int .i64 P2)).setCell ⟨w.heap.size+1,1,none⟩ (.int .i64 Q2) |>.heap.size) (by have:=RS'.out;simp;omega) (Below.refl _ _).drew)
    have N2:=hid ((R2'.out.set2 (x:=P2) (y:=Q2)).below (B:=(W3.setCell ⟨w.heap.size+1,0,none⟩ (.int .i64 P2)).setCell ⟨w.heap.size+1,1,none⟩ (.int .i64 Q2) |>.heap.size) (by have:=RS'.out;simp;omega) (Below.refl _ _).drew)
    have N3:=hid (zby RB'.out (g:=w.heap.size+1) (by omega) (.int .i64 P2) (.int .i64 Q2)).drew
    have N4:=hid (show w.heap.size+2≤((W3.setCell ⟨w.heap.size+1,0,none⟩ (.int .i64 P2)).setCell ⟨w.heap.size+1,1,none⟩ (.int .i64 Q2)).drew.heap.size by have:=RS'.out;simpa using this)
    clear R1' R2' RB' RS' R3 c0 c1 f0 f1 d0 d1 hgr hrg
    generalize ((W3.setCell ⟨w.heap.size+1,0,none⟩ (.int .i64 P2)).setCell ⟨w.heap.size+1,1,none⟩ (.int .i64 Q2)).drew=W4 at N1 N2 N3 N4 ⊢
    go_wp2_with fail
    go_roundw
    case rel=>exact⟨k+1,by omega,by go_num,N1,hid (by rw [HP2.out,HQ2.out];exact N2.out),N3,N4⟩
    case measure=>simp [intOf];omega
   ·obtain rfl:k=n:=by omega
    have hX:mnA p0 P k=loF P k:=by rw [← HP0.out];exact mnA_lo P H0.out
    have hY:mxA q0 Q k=hiF Q k:=by rw [← HQ0.out];exact mxA_hi Q H0.out
    rw [hX,hY] at R2
    obtain⟨X,hX2⟩:∃ X,loF P k=X:=⟨_,rfl⟩
    obtain⟨Y,hY2⟩:∃ Y,hiF Q k=Y:=⟨_,rfl⟩
    rw [hX2,hY2] at R2
    have HXX:=hid hX2
    have HYY:=hid hY2
    clear hX hY hX2 hY2
    obtain⟨c0,c1,f0,f1⟩:=R2.out
    obtain⟨d0,d1,g0,g1⟩:=R1.out
    go_wp2_with fail
    refine bodyPost_ret (Kit.zat rfl _ _ w.heap.size 0 [.int .i64 X,.int .i64 Y] _ rfl (Kit.zaq (by go_cell) (by go_cell)) Tryz.underlying144 rfl (by kernel_rfl)) rfl ?_
    exact⟨by rw [HXX.out,HYY.out],zby RB.out (le_refl _) _ _⟩
end CSpan
end
end Go.Proofs.YtoffcaldhojjoaaGreatDoor
