/- -/
import Derived.Test.YtoffcaldhojjoaaDoorGVA30
import Derived.Test.YtoffcaldhojjoaaDoorGVA31
import Derived.Test.YtoffcaldhojjoaaDoorGVA33
open Go.Lib (hid)
open Nat (le_refl lt_of_succ_lt lt_succ_self)
set_option linter.unusedVariables false
set_option linter.unusedSimpArgs false
set_option maxRecDepth 100000
set_option maxHeartbeats 16000000
namespace Go.Proofs.YtoffcaldhojjoaaDoor
namespace CConv
end CConv
namespace CFix
end CFix
namespace CGraph
end CGraph
namespace CKind
end CKind
namespace CSat
end CSat
namespace CSpan
end CSpan
namespace CTensor
end CTensor
open Go Go.ChangeShapes Go.WideShapes Go.ChangeAt Go.RowKit Go.Deep
section
namespace CGuard
open Plain CSat CFix CShape CTensor CConv CSpan CKind CGraph CJoin
theorem rgn_sum1n {w:World} (x:Nd) (l h l2 h2:Int) (bd:(-128≤l∧l≤127)∧(-128≤h∧h≤127)∧(-128≤l2∧l2≤127)∧(-128≤h2∧h2≤127)) (ok:NBd x.Z x.Y x.m1 x.z1 x.m2 x.z2 x.lo x.hi) (ws bs:List Int) (hL:NdL w w.heap.size x ws bs) (hW2:x.nW≤20000) (hB2:x.nB≤20000) (he:x.checkZ=0) (hk:x.kd=1) (hlh:l≤h) (hs:¬ (1≤x.nB∧x.nW % x.nB=0)) :
  Calls Tryd.prog 27 #[.agg x.val,.agg #[.int .i8 l,.int .i8 h],.agg #[.int .i8 l2,.int .i8 h2]] w fun e w'=>e=.returned (.tuple #[.agg #[.int .i8 (min (heldZ (c32 0) x.m1 x.s1 x.z1 x.lo x.hi) (heldZ (c32 0) x.m1 x.s1 x.z1 x.lo x.hi)),.int .i8 (max (heldZ (c32 0) x.m1 x.s1 x.z1 x.lo x.hi) (heldZ (c32 0) x.m1 x.s1 x.z1 x.lo x.hi))],.int .i64 (0)])∧Below w.heap.size w w':=by
 obtain⟨hg0,hw0⟩:=zat.new w x l h l2 h2
 have HG:=hid hg0
 have HW:=hid hw0
 have hck:=zar x
 unfold zbg at hck
 rw [he] at hck
 have dlh:decide (h < l)=false:=by simp;omega
 have dlh2:¬ h < l:=by omega
 have dk1:(x.kd == 1)=true:=by simp [hk]
 have dk2:(x.kd == 2)=false:=by simp [hk]
 have dk3:(x.kd == 3)=false:=by simp [hk]
 have dk6:(x.kd == 6)=false:=by simp [hk]
 have dk7:(x.kd == 7)=false:=by simp [hk]
 have dk8:(x.kd == 8)=false:=by simp [hk]
 have CS:=hid (fun w:World=>zbc x.WA x.BA x.nW x.cW x.nB x.cB (by omega) (by omega) w)
 rw [show decide (1≤x.nB∧x.nW % x.nB=0)=false by simp only [hs,decide_false]] at CS
 have CA:=hid (fun w:World=>zcf (0) (0) x.m1 x.s1 x.z1 x.lo x.hi ok.2.2.1.1 ok.2.2.1.2 ok.2.2.2.1.1 ok.2.2.2.1.2 ok.2.2.2.2.2.2.1.1 ok.2.2.2.2.2.2.1.2 ok.2.2.2.2.2.2.2.1 ok.2.2.2.2.2.2.2.2 w)
 generalize min (heldZ (c32 (0)) x.m1 x.s1 x.z1 x.lo x.hi) (heldZ (c32 (0)) x.m1 x.s1 x.z1 x.lo x.hi)=ra at CA ⊢
 generalize max (heldZ (c32 (0)) x.m1 x.s1 x.z1 x.lo x.hi) (heldZ (c32 (0)) x.m1 x.s1 x.z1 x.lo x.hi)=rb at CA ⊢
 have CK:=hid hck
 clear hg0 hw0 hck he hk hs
 go_enter Tryd.func27,Tryd.ntmps27
 go_upto_region 1 with fail
 generalize ((((w.alloc (.cells x.val 67)).alloc (.cells #[.int .i8 l,.int .i8 h] 61)).alloc (.cells #[.int .i8 l2,.int .i8 h2] 61)).alloc (.cells #[.int .i8 0,.int .i8 0] 61))=W0 at HG HW ⊢
 have c0:=HG.out.1.at 0 _ rfl
 have c5:=HG.out.1.at 5 _ rfl
 have c7:=HG.out.1.at 7 _ rfl
 have c9:=HG.out.1.at 9 _ rfl
 have c10:=HG.out.1.at 10 _ rfl
 have c11:=HG.out.1.at 11 _ rfl
 have c12:=HG.out.1.at 12 _ rfl
 have c13:=HG.out.1.at 13 _ rfl
 have c17:=HG.out.1.at 17 _ rfl
 have c18:=HG.out.1.at 18 _ rfl
 obtain⟨a0,a1⟩:=HG.out.2.1
 obtain⟨b0,b1⟩:=HG.out.2.2.1
 go_wp2_with (refine zac rfl _ rfl w.heap.size x rfl HG.out.1 ?_)
 go_at_call 23
 refine (CK.out _).mono ?_
 rintro e w1 ⟨rfl,hb⟩
 replace HG:=hid (HG.out.below hb)
 replace HW:=hid (HW.out.trans (hb.mono HW.out.size))
 clear hb c0 c5 c7 c9 c10 c11 c12 c13 c17 c18 a0 a1 b0 b1
 have c0:=HG.out.1.at 0 _ rfl
 have c5:=HG.out.1.at 5 _ rfl
 have c7:=HG.out.1.at 7 _ rfl
 have c9:=HG.out.1.at 9 _ rfl
 have c10:=HG.out.1.at 10 _ rfl
 have c11:=HG.out.1.at 11 _ rfl
 have c12:=HG.out.1.at 12 _ rfl
 have c13:=HG.out.1.at 13 _ rfl
 have c17:=HG.out.1.at 17 _ rfl
 have c18:=HG.out.1.at 18 _ rfl
 obtain⟨a0,a1⟩:=HG.out.2.1
 obtain⟨b0,b1⟩:=HG.out.2.2.1
 go_wp2_with (refine zac rfl _ rfl w.heap.size x rfl HG.out.1 ?_)
 go_at_call 28
 refine (CS.out _).mono ?_
 rintro e w2 ⟨rfl,hw1⟩
 have hb:=zcg hw1
 clear hw1
 replace HG:=hid (HG.out.below hb)
 replace HW:=hid (HW.out.trans (hb.mono HW.out.size))
 clear hb c0 c5 c7 c9 c10 c11 c12 c13 c17 c18 a0 a1 b0 b1
 have c0:=HG.out.1.at 0 _ rfl
 have c5:=HG.out.1.at 5 _ rfl
 have c7:=HG.out.1.at 7 _ rfl
 have c9:=HG.out.1.at 9 _ rfl
 have c10:=HG.out.1.at 10 _ rfl
 have c11:=HG.out.1.at 11 _ rfl
 have c12:=HG.out.1.at 12 _ rfl
 have c13:=HG.out.1.at 13 _ rfl
 have c17:=HG.out.1.at 17 _ rfl
 have c18:=HG.out.1.at 18 _ rfl
 obtain⟨a0,a1⟩:=HG.out.2.1
 obtain⟨b0,b1⟩:=HG.out.2.2.1
 go_wp2_with (refine zac rfl _ rfl w.heap.size x rfl HG.out.1 ?_)
 go_at_call 47
 refine (CA.out _).mono ?_
 rintro e w3 ⟨rfl,hb⟩
 replace HG:=hid (HG.out.below hb)
 replace HW:=hid (HW.out.trans (hb.mono HW.out.size))
 clear hb c0 c5 c7 c9 c10 c11 c12 c13 c17 c18 a0 a1 b0 b1
 have c0:=HG.out.1.at 0 _ rfl
 have c5:=HG.out.1.at 5 _ rfl
 have c7:=HG.out.1.at 7 _ rfl
 have c9:=HG.out.1.at 9 _ rfl
 have c10:=HG.out.1.at 10 _ rfl
 have c11:=HG.out.1.at 11 _ rfl
 have c12:=HG.out.1.at 12 _ rfl
 have c13:=HG.out.1.at 13 _ rfl
 have c17:=HG.out.1.at 17 _ rfl
 have c18:=HG.out.1.at 18 _ rfl
 obtain⟨a0,a1⟩:=HG.out.2.1
 obtain⟨b0,b1⟩:=HG.out.2.2.1
 obtain⟨⟨z0,z1⟩,z2,z3⟩:=HG.out.2.2.2.1
 go_wp2_with (refine zac rfl _ rfl w.heap.size x rfl HG.out.1 ?_)
 refine bodyPost_ret (Kit.zaa rfl _ _ (w.heap.size+3) 0 [.int .i8 (ra),.int .i8 (rb)] _ rfl (Kit.zaq (by go_cell) (by go_cell)) Tryd.underlying61 rfl (by kernel_rfl)) rfl ?_
 exact⟨rfl,(HW.out.setCell (p:=⟨w.heap.size+3,0,none⟩) (by simp) _).setCell (p:=⟨w.heap.size+3,1,none⟩) (by simp) _⟩
def gnZ (x:Nd) (ws bs:List Int) (l h l2 h2:Int):Int × Int × Int :=
 if x.checkZ≠0 then (0,0,x.checkZ) else if h < l∨(x.kd=6∧h2 < l2) then (0,0,2)
 else if x.kd=1∨x.kd=2∨x.kd=3 then
  (if 1≤x.nB∧x.nW % x.nB=0 then (if fitB (lsW ws bs x.nW x.nB l h x.Z (decide (0 < x.P))) (grW ws bs x.nW x.nB l h x.Z (decide (0 < x.P)))=true then (min (heldZ (c32 (lsW ws bs x.nW x.nB l h x.Z (decide (0 < x.P)))) x.m1 x.s1 x.z1 x.lo x.hi) (heldZ (c32 (grW ws bs x.nW x.nB l h x.Z (decide (0 < x.P)))) x.m1 x.s1 x.z1 x.lo x.hi),max (heldZ (c32 (lsW ws bs x.nW x.nB l h x.Z (decide (0 < x.P)))) x.m1 x.s1 x.z1 x.lo x.hi) (heldZ (c32 (grW ws bs x.nW x.nB l h x.Z (decide (0 < x.P)))) x.m1 x.s1 x.z1 x.lo x.hi),0) else (0,0,10)) else (min (heldZ (c32 (0)) x.m1 x.s1 x.z1 x.lo x.hi) (heldZ (c32 (0)) x.m1 x.s1 x.z1 x.lo x.hi),max (heldZ (c32 (0)) x.m1 x.s1 x.z1 x.lo x.hi) (heldZ (c32 (0)) x.m1 x.s1 x.z1 x.lo x.hi),0))
 else if x.kd=6 then (oneZ l l2 x.Z x.Y x.m1 x.s1 x.z1 x.m2 x.s2 x.lo x.hi,oneZ h h2 x.Z x.Y x.m1 x.s1 x.z1 x.m2 x.s2 x.lo x.hi,0) else if x.kd=7 then (heldZ (l - x.Z) x.m1 x.s1 x.z1 x.lo x.hi,heldZ (h - x.Z) x.m1 x.s1 x.z1 x.lo x.hi,0) else if x.kd=8∧0 < x.P then (min l x.Z,max h x.Z,0) else (l,h,0)
theorem check_kd {x:Nd} (h:x.checkZ=0):1≤x.kd∧x.kd≤9:=by
 unfold Nd.checkZ at h
 split at h
 ·cases h
 ·rename_i h1;omega
theorem rgnode_to {w:World} (x:Nd) (l h l2 h2:Int) (bd:(-128≤l∧l≤127)∧(-128≤h∧h≤127)∧(-128≤l2∧l2≤127)∧(-128≤h2∧h2≤127)) (ws bs:List Int) (hL:NdL w w.heap.size x ws bs) (hW2:x.nW≤20000) (hB2:x.nB≤20000) :
  Calls Tryd.prog 27 #[.agg x.val,.agg #[.int .i8 l,.int .i8 h],.agg #[.int .i8 l2,.int .i8 h2]] w fun e w'=>e=.returned (.tuple #[.agg #[.int .i8 (gnZ x ws bs l h l2 h2).1,.int .i8 (gnZ x ws bs l h l2 h2).2.1],.int .i64 (gnZ x ws bs l h l2 h2).2.2])∧Below w.heap.size w w':=by
 have ok:=nbd_of hL.ok
 unfold gnZ
 by_cases hc:x.checkZ≠0
 ·rw [if_pos hc];exact rgn_chk x l h l2 h2 bd ok _ rfl hc
 ·rw [if_neg hc]
  have he:x.checkZ=0:=by omega
  have hkd:=check_kd he
  by_cases hlh:h < l
  ·rw [if_pos (.inl hlh)];exact rgn_arg x l h l2 h2 bd ok he hlh
  ·by_cases h6:x.kd=6∧h2 < l2
   ·rw [if_pos (.inr h6)];exact rgn_arg6 x l h l2 h2 bd ok he h6.1 (by omega) h6.2
   ·rw [if_neg (by omega)]
    by_cases hs3:x.kd=1∨x.kd=2∨x.kd=3
    ·rw [if_pos hs3]
     by_cases hs:1≤x.nB∧x.nW % x.nB=0
     ·rw [if_pos hs]
      cases hf:fitB (lsW ws bs x.nW x.nB l h x.Z (decide (0 < x.P))) (grW ws bs x.nW x.nB l h x.Z (decide (0 < x.P)))
      ·rw [if_neg (by simp)]
       rcases hs3 with k | k | k
       ·exact rgn_sum1o x l h l2 h2 bd ok ws bs hL hW2 hB2 he k (by omega) hs hf
       ·exact rgn_sum2o x l h l2 h2 bd ok ws bs hL hW2 hB2 he k (by omega) hs hf
       ·exact rgn_sum3o x l h l2 h2 bd ok ws bs hL hW2 hB2 he k (by omega) hs hf
      ·rw [if_pos rfl]
       rcases hs3 with k | k | k
       ·exact rgn_sum1y x l h l2 h2 bd ok ws bs hL hW2 hB2 he k (by omega) hs hf
       ·exact rgn_sum2y x l h l2 h2 bd ok ws bs hL hW2 hB2 he k (by omega) hs hf
       ·exact rgn_sum3y x l h l2 h2 bd ok ws bs hL hW2 hB2 he k (by omega) hs hf
     ·rw [if_neg hs]
      rcases hs3 with k | k | k
      ·exact rgn_sum1n x l h l2 h2 bd ok ws bs hL hW2 hB2 he k (by omega) hs
      ·exact rgn_sum2n x l h l2 h2 bd ok ws bs hL hW2 hB2 he k (by omega) hs
      ·exact rgn_sum3n x l h l2 h2 bd ok ws bs hL hW2 hB2 he k (by omega) hs
    ·rw [if_neg hs3]
     by_cases k6:x.kd=6
     ·rw [if_pos k6];exact rgn_join x l h l2 h2 bd ok he k6 (by omega) (by omega)
     ·rw [if_neg k6]
      by_cases k7:x.kd=7
      ·rw [if_pos k7];exact rgn_act x l h l2 h2 bd ok he k7 (by omega)
      ·rw [if_neg k7]
       by_cases k8:x.kd=8∧0 < x.P
       ·rw [if_pos k8];exact rgn_pad1 x l h l2 h2 bd ok he k8.1 (by omega) k8.2
       ·rw [if_neg k8]
        rcases (show x.kd=4∨x.kd=5∨x.kd=9∨x.kd=8 by omega) with k | k | k | k
        ·exact rgn_same4 x l h l2 h2 bd ok he k (by omega)
        ·exact rgn_same5 x l h l2 h2 bd ok he k (by omega)
        ·exact rgn_same9 x l h l2 h2 bd ok he k (by omega)
        ·exact rgn_pad0 x l h l2 h2 bd ok he k (by omega) (fun hp=>k8 ⟨k,hp⟩)
end CGuard
end
section
namespace CSpan
open Plain CSat CFix CShape CTensor CConv
theorem cholds_to (A:Option Addr) (P Q:Nat→Int) (n c:Nat) (hn:n≤1000000) (w:World) (hr:Kit.Rd w w.heap.size A (pairV P Q n)) :
  Calls Tryd.prog 60 #[.slice A n c] w fun e w'=>e=.returned (.bool (holdF P Q n))∧Below w.heap.size w w':=by
 have HR:=hid hr
 have HB0:=hid (Below.refl w.heap.size w)
 clear hr
 go_enter Tryd.func60,Tryd.ntmps60
 go_wp2_with fail
 go_loopw [7] (fun u wr=>∃ k:Nat,k≤n∧u=.int .i64 k∧Hid (holdF P Q k=true)∧Hid (Below w.heap.size w wr)) (fun u _=>n - (intOf u).toNat)
 case atStart=>exact⟨0,Nat.zero_le _,rfl,hid rfl,HB0⟩
 case round =>
  obtain⟨k,hk,rfl,H,HB⟩:=hrel
  clear HB0
  by_cases hlt:k < n
  ·obtain⟨b,o,rfl,hb,hc⟩:=rd_pair HR.out (by omega)
   have hc0:=(HB.out.cell (p:=⟨b,o+k * 2,none⟩) hb).trans (hc k hlt).1
   have hc1:=(HB.out.cell (p:=⟨b,o+k * 2+1,none⟩) hb).trans (hc k hlt).2
   have hk0:(0:Int)≤(k:Int):=by omega
   have hkn:(k:Int) < (n:Int):=by omega
   have hst:holdF P Q (k+1)=(decide (-2147483648≤P k) && decide (Q k≤2147483647)):=by simp only [holdF];rw [H.out];rfl
   have HST:=hid hst
   have HF:=hid (holdF_iff P Q n)
   have HIF:=hid (show ¬ (-2147483648≤P k∧Q k≤2147483647)→holdF P Q n=false from fun h=>by
    rcases hh:holdF P Q n with _ | _
    ·rfl
    ·exact absurd ((holdF_iff P Q n).1 hh k hlt) h)
   clear hc hst
   generalize P k=x at hc0 HST HIF
   generalize Q k=y at hc1 HST HIF
   by_cases h1:x < -2147483648
   ·have HFF:=hid (HIF.out (by omega))
    go_wp2_with fail
    go_ret
    exact⟨by rw [HFF.out];rfl,HB.out.trans ((Below.refl _ _).alloc HB.out.size _)⟩
   ·by_cases h2:2147483647 < y
    ·have HFF:=hid (HIF.out (by omega))
     go_wp2_with fail
     go_ret
     exact⟨by rw [HFF.out];rfl,HB.out.trans ((Below.refl _ _).alloc HB.out.size _)⟩
    ·have h3:y≤2147483647:=by omega
     have h4 : -2147483648≤x:=by omega
     go_wp2_with fail
     go_roundw
     case rel=>exact⟨k+1,by omega,by go_num,hid (by rw [HST.out];simp [h3,h4]),hid (HB.out.trans ((Below.refl _ _).alloc HB.out.size _))⟩
     case measure=>simp [intOf];omega
  ·obtain rfl:k=n:=by omega
   go_wp2_with fail
   go_ret
   exact⟨by rw [H.out];rfl,HB.out⟩
theorem mnA_lo (P:Nat→Int) {k:Nat} (h:0 < k):mnA (P 0) P k=loF P k:=by
 induction k with
 | zero=>omega
 | succ k ih =>
   by_cases e:k=0
   ·subst e;simp [mnA,loF]
   ·rw [loF_more P (by omega), ← ih (by omega)];rfl
theorem mxA_hi (Q:Nat→Int) {k:Nat} (h:0 < k):mxA (Q 0) Q k=hiF Q k:=by
 induction k with
 | zero=>omega
 | succ k ih =>
   by_cases e:k=0
   ·subst e;simp [mxA,hiF]
   ·rw [hiF_more Q (by omega), ← ih (by omega)];rfl
theorem cboth_to (A:Option Addr) (P Q:Nat→Int) (n c:Nat) (hn:n≤1000000) (w:World) (hr:Kit.Rd w w.heap.size A (pairV P Q n)) :
  Calls Tryd.prog 89 #[.slice A n c] w fun e w'=>e=.returned (.agg #[.int .i64 (loF P n),.int .i64 (hiF Q n)])∧Below w.heap.size w w':=by
 have hal:Below w.heap.size w (w.alloc (.cells #[.int .i64 0,.int .i64 0] 139)):=(Below.refl _ _).alloc (le_refl _) _
 have hrb:=RBox.new 0 0 w
 have hsz:(w.alloc (.cells #[.int .i64 0,.int .i64 0] 139)).heap.size=w.heap.size+1:=by simp
 have HRB:=hid hrb
 have HAL:=hid hal
 have HSZ:=hid hsz
 clear hal hrb hsz
 rcases Nat.eq_zero_or_pos n with h0 | h0
 ·subst h0
  clear hr
  show Calls _ _ _ _ fun e w'=>e=.returned (.agg #[.int .i64 0,.int .i64 0])∧Below w.heap.size w w'
  go_enter Tryd.func89,Tryd.ntmps89
  obtain⟨c0,c1,f0,f1⟩:=HRB.out
  go_wp2_with fail
  refine bodyPost_ret (Kit.za8 rfl _ _ w.heap.size 0 [.int .i64 0,.int .i64 0] _ rfl (Kit.zaq (by go_cell) (by go_cell)) Tryd.underlying139 rfl (by kernel_rfl)) rfl ?_
  exact⟨rfl,HAL.out⟩
 ·obtain⟨b,o,rfl,hb,hc⟩:=rd_pair hr h0
  have HC:=hid hc
  have hc0:w.cell? ⟨b,o,none⟩=some (.int .i64 (P 0)):=by simpa using (hc 0 h0).1
  have hc1:w.cell? ⟨b,o+1,none⟩=some (.int .i64 (Q 0)):=by simpa using (hc 0 h0).2
  have hn0:((n:Int) == 0)=false:=by simp;omega
  have hn1:¬ (n:Int)=0:=by omega
  have hn2:(0:Int) < (n:Int):=by omega
  generalize hp0:P 0=p0 at hc0
  generalize hq0:Q 0=q0 at hc1
  have HP0:=hid hp0
  have HQ0:=hid hq0
  have b2:Below (w.heap.size+1) (w.alloc (.cells #[.int .i64 0,.int .i64 0] 139)) ((w.alloc (.cells #[.int .i64 0,.int .i64 0] 139)).alloc (.cells #[.int .i64 p0,.int .i64 q0] 139)):=(Below.refl _ _).alloc (by simp) _
  have r2:RBox (w.heap.size+1) p0 q0 ((w.alloc (.cells #[.int .i64 0,.int .i64 0] 139)).alloc (.cells #[.int .i64 p0,.int .i64 q0] 139)):=by
   have:=RBox.new p0 q0 (w.alloc (.cells #[.int .i64 0,.int .i64 0] 139))
   rw [HSZ.out] at this
   exact this
  have HR1:=hid (HRB.out.below (lt_succ_self _) b2)
  have HR2:=hid r2
  have HB:=hid (HAL.out.trans (b2.mono (Nat.le_succ _)))
  have HS:Hid (w.heap.size+2≤((w.alloc (.cells #[.int .i64 0,.int .i64 0] 139)).alloc (.cells #[.int .i64 p0,.int .i64 q0] 139)).heap.size):=hid (by simp)
  have H0:=hid h0
  clear hr hc hp0 hq0 b2 r2 HRB HAL HSZ h0
  go_enter Tryd.func89,Tryd.ntmps89
  go_wp2_with fail
  clear hn0 hn1 hn2 hc0 hc1
  generalize (w.alloc (.cells #[.int .i64 0,.int .i64 0] 139)).alloc (.cells #[.int .i64 p0,.int .i64 q0] 139)=W0 at HR1 HR2 HB HS ⊢
  go_loopw [15] (fun u wr=>∃ k:Nat,k≤n∧u=.int .i64 k∧Hid (RBox w.heap.size 0 0 wr)∧Hid (RBox (w.heap.size+1) (mnA p0 P k) (mxA q0 Q k) wr)∧Hid (Below w.heap.size w wr)∧Hid (w.heap.size+2≤wr.heap.size)) (fun u _=>n - (intOf u).toNat)
  case atStart=>exact⟨0,Nat.zero_le _,rfl,HR1,HR2,HB,HS⟩
  case round =>
   obtain⟨k,hk,rfl,R1,R2,RB,RS⟩:=hrel
   clear HR1 HR2 HB HS
   by_cases hlt:k < n
   ·have hk0:(0:Int)≤(k:Int):=by omega
    have hkn:(k:Int) < (n:Int):=by omega
    have hc0:wr.cell? ⟨b,o+k * 2,none⟩=some (.int .i64 (P k)):=(RB.out.cell (p:=⟨b,o+k * 2,none⟩) hb).trans (HC.out k hlt).1
    have hc1:wr.cell? ⟨b,o+k * 2+1,none⟩=some (.int .i64 (Q k)):=(RB.out.cell (p:=⟨b,o+k * 2+1,none⟩) hb).trans (HC.out k hlt).2
    have st1:mnA p0 P (k+1)=min (mnA p0 P k) (P k):=rfl
    have st2:mxA q0 Q (k+1)=max (mxA q0 Q k) (Q k):=rfl
    rw [← min_ite] at st1
    rw [← max_ite] at st2
    obtain⟨P1,hP1⟩:∃ X,mnA p0 P k=X:=⟨_,rfl⟩
    obtain⟨Q1,hQ1⟩:∃ X,mxA q0 Q k=X:=⟨_,rfl⟩
    obtain⟨P2,hP2⟩:∃ X,mnA p0 P (k+1)=X:=⟨_,rfl⟩
    obtain⟨Q2,hQ2⟩:∃ X,mxA q0 Q (k+1)=X:=⟨_,rfl⟩
    rw [hP1,hP2] at st1
    rw [hQ1,hQ2] at st2
    rw [hP1,hQ1] at R2
    have HP2:=hid hP2
    have HQ2:=hid hQ2
    clear hP1 hQ1 hP2 hQ2
    generalize P k=x at hc0 st1
    generalize Q k=y at hc1 st2
    have m1:=st1.symm
    have m2:=st2.symm
    clear st1 st2
    go_upto_region 7 with fail
    have hW:Below wr.heap.size wr (wr.alloc (.cells #[.int .i64 x,.int .i64 y] 139)):=(Below.refl _ _).alloc (le_refl _) _
    have R1':=hid (R1.out.below (by have:=RS.out;omega) hW)
    have R2':=hid (R2.out.below (by have:=RS.out;omega) hW)
    have RB':=hid (RB.out.trans (hW.mono RB.out.size))
    have RS':=hid (Nat.le_trans RS.out hW.size)
    have R3:=hid (RBox.new x y wr)
    obtain⟨r,hr⟩:∃ r,wr.heap.size=r:=⟨_,rfl⟩
    simp only [hr] at R3 ⊢
    generalize wr.alloc (.cells #[.int .i64 x,.int .i64 y] 139)=W3 at R1' R2' RB' RS' R3 ⊢
    have hgr:¬ w.heap.size+1=r:=by have:=RS.out;omega
    have hrg:¬ r=w.heap.size+1:=by have:=RS.out;omega
    clear R1 R2 RB RS hW hr hc0 hc1
    obtain⟨c0,c1,f0,f1⟩:=R2'.out
    obtain⟨d0,d1, -, -⟩:=R3.out
    go_region
    have N1:=hid ((R1'.out.set2o (q:=w.heap.size+1) (u:=.int .i64 P2) (v:=.int .i64 Q2) (by omega)).below (B:=(W3.setCell ⟨w.heap.size+1,0,none⟩ (.int .i64 P2)).setCell ⟨w.heap.size+1,1,none⟩ (.int .i64 Q2) |>.heap.size) (by have:=RS'.out;simp;omega) (Below.refl _ _).drew)
    have N2:=hid ((R2'.out.set2 (x:=P2) (y:=Q2)).below (B:=(W3.setCell ⟨w.heap.size+1,0,none⟩ (.int .i64 P2)).setCell ⟨w.heap.size+1,1,none⟩ (.int .i64 Q2) |>.heap.size) (by have:=RS'.out;simp;omega) (Below.refl _ _).drew)
    have N3:=hid (zbv RB'.out (g:=w.heap.size+1) (by omega) (.int .i64 P2) (.int .i64 Q2)).drew
    have N4:=hid (show w.heap.size+2≤((W3.setCell ⟨w.heap.size+1,0,none⟩ (.int .i64 P2)).setCell ⟨w.heap.size+1,1,none⟩ (.int .i64 Q2)).drew.heap.size by have:=RS'.out;simpa using this)
    clear R1' R2' RB' RS' R3 c0 c1 f0 f1 d0 d1 hgr hrg
    generalize ((W3.setCell ⟨w.heap.size+1,0,none⟩ (.int .i64 P2)).setCell ⟨w.heap.size+1,1,none⟩ (.int .i64 Q2)).drew=W4 at N1 N2 N3 N4 ⊢
    go_wp2_with fail
    go_roundw
    case rel=>exact⟨k+1,by omega,by go_num,N1,hid (by rw [HP2.out,HQ2.out];exact N2.out),N3,N4⟩
    case measure=>simp [intOf];omega
   ·obtain rfl:k=n:=by omega
    have hX:mnA p0 P k=loF P k:=by rw [← HP0.out];exact mnA_lo P H0.out
    have hY:mxA q0 Q k=hiF Q k:=by rw [← HQ0.out];exact mxA_hi Q H0.out
    rw [hX,hY] at R2
    obtain⟨X,hX2⟩:∃ X,loF P k=X:=⟨_,rfl⟩
    obtain⟨Y,hY2⟩:∃ Y,hiF Q k=Y:=⟨_,rfl⟩
    rw [hX2,hY2] at R2
    have HXX:=hid hX2
    have HYY:=hid hY2
    clear hX hY hX2 hY2
    obtain⟨c0,c1,f0,f1⟩:=R2.out
    obtain⟨d0,d1,g0,g1⟩:=R1.out
    go_wp2_with fail
    refine bodyPost_ret (Kit.za8 rfl _ _ w.heap.size 0 [.int .i64 X,.int .i64 Y] _ rfl (Kit.zaq (by go_cell) (by go_cell)) Tryd.underlying139 rfl (by kernel_rfl)) rfl ?_
    exact⟨by rw [HXX.out,HYY.out],zbv RB.out (le_refl _) _ _⟩
end CSpan
end
end Go.Proofs.YtoffcaldhojjoaaDoor
