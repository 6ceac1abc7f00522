/- -/
import Derived.Test.YtahekhpeomcfjaaGreatDoorGJ21
open Go.Lib (hid)
open Nat (le_refl lt_of_succ_lt lt_succ_self)
set_option linter.unusedVariables false
set_option linter.unusedSimpArgs false
set_option maxRecDepth 100000
set_option maxHeartbeats 16000000
namespace Go.Proofs.YtahekhpeomcfjaaGreatDoor
namespace CConv
end CConv
namespace CSat
end CSat
namespace CShape
end CShape
namespace CTensor
end CTensor
namespace CWheel
end CWheel
open Go Go.ChangeShapes Go.WideShapes Go.ChangeAt Go.RowKit
section
namespace CLane
open Plain CSat CShape CTensor CConv FloatNum CFour CWheel
theorem fits_to (x0 x1 x2 x8 x11 x12 x13 x14 x15 x16 x17 x18:Value) (K S P O Z:Int) (WA BA:Option Addr) (nW cW nB cB:Nat) (b:Bool) (hb:(decide (K=3) && decide (S=1))=b) (w:World) :
  Calls Tryz.prog 124 #[.agg #[x0,x1,x2,.int .i64 K,.int .i64 S,.int .i64 P,.int .i64 O,.int .i8 Z,x8,.slice WA nW cW,.slice BA nB cB,x11,x12,x13,x14,x15,x16,x17,x18]] w fun e w'=>e=.returned (.bool b)∧Below w.heap.size w w':=by
 have hn:=zai.new x0 x1 x2 x8 x11 x12 x13 x14 x15 x16 x17 x18 K S P O Z WA BA nW cW nB cB 44 w
 have n3:=hn.at 3 _ rfl
 have n4:=hn.at 4 _ rfl
 have hB:Below w.heap.size w (w.alloc (.cells #[x0,x1,x2,.int .i64 K,.int .i64 S,.int .i64 P,.int .i64 O,.int .i8 Z,x8,.slice WA nW cW,.slice BA nB cB,x11,x12,x13,x14,x15,x16,x17,x18] 44)):=(Below.refl _ _).alloc (le_refl _) _
 have HB:=hid hB
 clear hn hB
 by_cases h3:K=3
 ·have h3b:(K == 3)=true:=by simpa using h3
  by_cases h1:S=1
  ·have h1b:(S == 1)=true:=by simpa using h1
   obtain rfl:b=true:=by rw [← hb,decide_eq_true h3,decide_eq_true h1];rfl
   clear hb h3 h1
   go_enter Tryz.func124,Tryz.ntmps124
   go_upto_region 1 with fail
   generalize w.alloc (.cells #[x0,x1,x2,.int .i64 K,.int .i64 S,.int .i64 P,.int .i64 O,.int .i8 Z,x8,.slice WA nW cW,.slice BA nB cB,x11,x12,x13,x14,x15,x16,x17,x18] 44)=w1 at n3 n4 HB ⊢
   go_wp2_with fail
   go_ret
   exact⟨rfl,HB.out⟩
  ·have h1b:(S == 1)=false:=by simpa using h1
   obtain rfl:b=false:=by rw [← hb,decide_eq_false h1,Bool.and_false]
   clear hb h3 h1
   go_enter Tryz.func124,Tryz.ntmps124
   go_upto_region 1 with fail
   generalize w.alloc (.cells #[x0,x1,x2,.int .i64 K,.int .i64 S,.int .i64 P,.int .i64 O,.int .i8 Z,x8,.slice WA nW cW,.slice BA nB cB,x11,x12,x13,x14,x15,x16,x17,x18] 44)=w1 at n3 n4 HB ⊢
   go_wp2_with fail
   go_ret
   exact⟨rfl,HB.out⟩
 ·have h3b:(K == 3)=false:=by simpa using h3
  obtain rfl:b=false:=by rw [← hb,decide_eq_false h3,Bool.false_and]
  clear hb h3
  go_enter Tryz.func124,Tryz.ntmps124
  go_upto_region 1 with fail
  generalize w.alloc (.cells #[x0,x1,x2,.int .i64 K,.int .i64 S,.int .i64 P,.int .i64 O,.int .i8 Z,x8,.slice WA nW cW,.slice BA nB cB,x11,x12,x13,x14,x15,x16,x17,x18] 44)=w1 at n3 n4 HB ⊢
  go_wp2_with fail
  go_ret
  exact⟨rfl,HB.out⟩
theorem lof_bad (H W C:Int) (A:Option Addr) (n c:Nat) (x0 x1 x2 x8 x11 x12 x13 x14 x15 x16 x17 x18:Value) (K S P O Z:Int) (WA BA:Option Addr) (nW cW nB cB:Nat) (ht:tensB H W C n=false) (w:World) :
  Calls Tryz.prog 125 #[.agg #[.int .i64 H,.int .i64 W,.int .i64 C,.slice A n c],.agg #[x0,x1,x2,.int .i64 K,.int .i64 S,.int .i64 P,.int .i64 O,.int .i8 Z,x8,.slice WA nW cW,.slice BA nB cB,x11,x12,x13,x14,x15,x16,x17,x18]] w (MadeA w 0 0 0 0 [] (.int .i64 5)):=by
 have HT:=hid ht
 clear ht
 go_enter Tryz.func125,Tryz.ntmps125
 go_wp2_with (go_at_call 13;(refine (zac H W C A n c false HT.out _).mono ?_);(rintro e w1 ⟨rfl,hb⟩;obtain⟨hcc,hff⟩:=Kit.bcell hb;have hz:w.heap.size+3≤w1.heap.size:=(by have:=hb.size;simp at this;omega);have hz2:w.heap.size+2 < w1.heap.size:=(by omega);have HB:=hid hb;clear hb))
 refine bodyPost_ret (Kit.zaa rfl _ _ (w.heap.size+2) 0 [.int .i64 0,.int .i64 0,.int .i64 0,.slice none 0 0] _ rfl (CTensor.zan (by go_cell) (by go_cell) (by go_cell) (by go_cell)) Tryz.underlying83 rfl (by kernel_rfl)) rfl ?_
 have hB1:Below w.heap.size w w1:=Below.trans ((((Below.refl _ _).alloc (le_refl _) _).alloc (by simp) _).alloc (by simp;omega) _) (HB.out.mono (by first | omega | (simp;done) | (simp;omega)))
 exact⟨_,rfl,World.ownsRow_nil _ _ _ _,(((hB1.setCell (p:=⟨w.heap.size+2,0,none⟩) (by simp) _).setCell (p:=⟨w.heap.size+2,1,none⟩) (by simp) _).setCell (p:=⟨w.heap.size+2,2,none⟩) (by simp) _).setCell (p:=⟨w.heap.size+2,3,none⟩) (by simp) _⟩
theorem lof_err (H W C:Int) (A:Option Addr) (n c:Nat) (x0 x1 x2 x8 x11 x12 x13 x14 x15 x16 x17 x18:Value) (K S P O Z:Int) (WA BA:Option Addr) (nW cW nB cB:Nat) (ht:tensB H W C n=true) (er:Int) (he:convE H W C K S P O nW nB=er) (h0:er≠0) (w:World) :
  Calls Tryz.prog 125 #[.agg #[.int .i64 H,.int .i64 W,.int .i64 C,.slice A n c],.agg #[x0,x1,x2,.int .i64 K,.int .i64 S,.int .i64 P,.int .i64 O,.int .i8 Z,x8,.slice WA nW cW,.slice BA nB cB,x11,x12,x13,x14,x15,x16,x17,x18]] w (MadeA w 0 0 0 0 [] (.int .i64 er)):=by
 have hS:convS H W C K S P O nW nB=#[.int .i64 0,.int .i64 0,.int .i64 0]:=by unfold convS;rw [he,if_neg h0]
 have HT:=hid ht
 have HE:=hid he
 have HS:=hid hS
 have h0b:(er != 0)=true:=by simpa using h0
 have h0c:(er == 0)=false:=by simpa using h0
 clear ht he hS
 go_enter Tryz.func125,Tryz.ntmps125
 go_wp2_with (first
  | (go_at_call 13
     have hal:Below w.heap.size w (((w.alloc (.cells #[.int .i64 H,.int .i64 W,.int .i64 C,.slice A n c] 27)).alloc (.cells #[x0,x1,x2,.int .i64 K,.int .i64 S,.int .i64 P,.int .i64 O,.int .i8 Z,x8,.slice WA nW cW,.slice BA nB cB,x11,x12,x13,x14,x15,x16,x17,x18] 44)).alloc (.cells #[.int .i64 0,.int .i64 0,.int .i64 0,.slice none 0 0] 83)):=(((Below.refl _ _).alloc (by first | exact le_refl _ | (simp;done) | (simp;omega)) _).alloc (by first | exact le_refl _ | (simp;done) | (simp;omega)) _).alloc (by first | exact le_refl _ | (simp;done) | (simp;omega)) _
     refine (zac H W C A n c true HT.out _).mono ?_
     rintro e w1 ⟨rfl,hb⟩
     have hh:Below w.heap.size w w1:=hal.trans (hb.mono hal.size)
     have qTB:=(zbd H W C A n c 27) w
     try simp only [World.size_alloc] at qTB
     have TB:=hid ((qTB.below (B':=w.heap.size+1) (by omega) ((((Below.refl _ _).alloc (by first | exact le_refl _ | (simp;done) | (simp;omega)) _).alloc (by first | exact le_refl _ | (simp;done) | (simp;omega)) _).mono (by simp))).below (by first | (simp;done) | (simp;omega)) hb)
     have yTB:w.heap.size < w1.heap.size:=by have:=hb.size;simp at this;omega
     clear qTB
     have qTN:=(zai.new x0 x1 x2 x8 x11 x12 x13 x14 x15 x16 x17 x18 K S P O Z WA BA nW cW nB cB 44) (w.alloc (.cells #[.int .i64 H,.int .i64 W,.int .i64 C,.slice A n c] 27))
     try simp only [World.size_alloc] at qTN
     have TN:=hid ((qTN.below (B':=w.heap.size+2) (by omega) (((Below.refl _ _).alloc (by first | exact le_refl _ | (simp;done) | (simp;omega)) _).mono (by simp))).below (by first | (simp;done) | (simp;omega)) hb)
     have yTN:w.heap.size+1 < w1.heap.size:=by have:=hb.size;simp at this;omega
     clear qTN
     have qFR:=(za5 83) ((w.alloc (.cells #[.int .i64 H,.int .i64 W,.int .i64 C,.slice A n c] 27)).alloc (.cells #[x0,x1,x2,.int .i64 K,.int .i64 S,.int .i64 P,.int .i64 O,.int .i8 Z,x8,.slice WA nW cW,.slice BA nB cB,x11,x12,x13,x14,x15,x16,x17,x18] 44))
     try simp only [World.size_alloc] at qFR
     have FR:=hid (qFR.below (by first | (simp;done) | (simp;omega)) hb)
     have yFR:w.heap.size+2 < w1.heap.size:=by have:=hb.size;simp at this;omega
     clear qFR
     have HBW:Hid (Below w.heap.size w w1):=hid hh
     obtain⟨tbp0,tbp1,tbp2,tbp3⟩:=TB.out
     clear hb hh hal)
  | (go_at_call 75
     have hal:Below w1.heap.size w1 w1:=Below.refl _ _
     refine (conv_to H W C x0 x1 x2 x8 x11 x12 x13 x14 x15 x16 x17 x18 K S P O Z WA BA nW cW nB cB er _ HE.out HS.out _).mono ?_
     rintro e w2 ⟨rfl,hb⟩
     have hh:Below w1.heap.size w1 w2:=hal.trans (hb.mono hal.size)
     replace TB:=hid (TB.out.below yTB hh)
     replace yTB:=Nat.lt_of_lt_of_le yTB hh.size
     replace TN:=hid (TN.out.below yTN hh)
     replace yTN:=Nat.lt_of_lt_of_le yTN hh.size
     replace FR:=hid (FR.out.below yFR hh)
     replace yFR:=Nat.lt_of_lt_of_le yFR hh.size
     replace HBW:=hid (HBW.out.trans (hh.mono HBW.out.size))
     clear tbp0 tbp1 tbp2 tbp3
     obtain⟨⟨z0,z1,z2,z3⟩,z4,z5,z6,z7⟩:=FR.out
     obtain⟨tbp0,tbp1,tbp2,tbp3⟩:=TB.out
     clear hb hh hal)
  | (refine wpList_load_mid rfl 44 (.tmp 3) rfl (w.heap.size+1) 0 rfl [x0,x1,x2,.int .i64 K,.int .i64 S,.int .i64 P,.int .i64 O,.int .i8 Z,x8,.slice WA nW cW,.slice BA nB cB,x11,x12,x13,x14,x15,x16,x17,x18] _ (TN.out) Tryz.underlying44 rfl (by kernel_rfl) ?_))
 obtain⟨⟨z0,z1,z2,z3⟩,z4,z5,z6,z7⟩:=FR.out
 refine bodyPost_ret (Kit.zaa rfl _ _ (w.heap.size+2) 0 [.int .i64 0,.int .i64 0,.int .i64 0,.slice none 0 0] _ rfl (CTensor.zan (by go_cell) (by go_cell) (by go_cell) (by go_cell)) Tryz.underlying83 rfl (by kernel_rfl)) rfl ?_
 exact⟨_,rfl,World.ownsRow_nil _ _ _ _,by exact ((((HBW.out.setCell (p:=⟨w.heap.size+2,0,none⟩) (by simp) _).setCell (p:=⟨w.heap.size+2,1,none⟩) (by simp) _).setCell (p:=⟨w.heap.size+2,2,none⟩) (by simp) _).setCell (p:=⟨w.heap.size+2,3,none⟩) (by simp) _).alloc (by simp;omega) _⟩
end CLane
end
section
namespace CTensor
open Plain CSat CShape
theorem refSame_to (H W C:Int) (A B:Option Addr) (xs ys:List Int) (n c d:Nat) (hx:xs.length=n) (hy:ys.length=n) (hl:n≤1000000) (b:Bool) (hb:decide (xs=ys)=b) (w:World) {B1 B2:Nat} (h1:B1≤w.heap.size) (h2:B2≤w.heap.size) (ha:Kit.Rd w B1 A (xs.map (.int .i8))) (hbb:Kit.Rd w B2 B (ys.map (.int .i8))) :
  Calls Tryz.prog 10 #[.agg #[.int .i64 H,.int .i64 W,.int .i64 C,.slice A n c],.agg #[.int .i64 H,.int .i64 W,.int .i64 C,.slice B n d]] w fun e w'=>e=.returned (.bool b)∧Below w.heap.size w w':=by
 have HA:=hid ((ha.alloc h1 (.cells #[.int .i64 H,.int .i64 W,.int .i64 C,.slice A n c] 27)).alloc (by simp;omega) (.cells #[.int .i64 H,.int .i64 W,.int .i64 C,.slice B n d] 27))
 have HB:=hid ((hbb.alloc h2 (.cells #[.int .i64 H,.int .i64 W,.int .i64 C,.slice A n c] 27)).alloc (by simp;omega) (.cells #[.int .i64 H,.int .i64 W,.int .i64 C,.slice B n d] 27))
 have HX:=hid hx
 have HY:=hid hy
 have HBB:=hid hb
 clear ha hbb hx hy hb
 have HE:=eqShape H W C H W C
 have hg:=Tryz.eqGuardType24
 go_enter Tryz.func10,Tryz.ntmps10
 go_wp2_with fail
 have HBW:Hid (Below w.heap.size w ((w.alloc (.cells #[.int .i64 H,.int .i64 W,.int .i64 C,.slice A n c] 27)).alloc (.cells #[.int .i64 H,.int .i64 W,.int .i64 C,.slice B n d] 27))):=hid (((Below.refl _ _).alloc (le_refl _) _).alloc (by simp) _)
 have hca:((w.alloc (.cells #[.int .i64 H,.int .i64 W,.int .i64 C,.slice A n c] 27)).alloc (.cells #[.int .i64 H,.int .i64 W,.int .i64 C,.slice B n d] 27)).cell? ⟨w.heap.size,3,none⟩=some (.slice A n c):=by
  rw [World.cell?_alloc_lt _ _ _ (by simp)];exact Kit.zaf _ _ _ _
 have hcb:((w.alloc (.cells #[.int .i64 H,.int .i64 W,.int .i64 C,.slice A n c] 27)).alloc (.cells #[.int .i64 H,.int .i64 W,.int .i64 C,.slice B n d] 27)).cell? ⟨w.heap.size+1,3,none⟩=some (.slice B n d):=by
  have hcb:=Kit.zaf (w.alloc (.cells #[.int .i64 H,.int .i64 W,.int .i64 C,.slice A n c] 27)) #[.int .i64 H,.int .i64 W,.int .i64 C,.slice B n d] 27 3
  rw [World.size_alloc] at hcb;exact hcb
 generalize ((w.alloc (.cells #[.int .i64 H,.int .i64 W,.int .i64 C,.slice A n c] 27)).alloc (.cells #[.int .i64 H,.int .i64 W,.int .i64 C,.slice B n d] 27))=W1 at HA HB HBW hca hcb ⊢
 go_loopw [5] (fun i wr=>∃ k nq:Nat,k≤n∧i=.int .i64 k∧Hid (xs.take k=ys.take k)∧Hid (wr=W1.drewN nq)) (fun i _=>n - (intOf i).toNat)
 case atStart=>exact⟨0,0,Nat.zero_le _,rfl,hid (by simp),hid rfl⟩
 case round =>
  obtain⟨k,nq,hk,rfl,ht,hw⟩:=hrel
  obtain rfl:=hw.out
  clear hw
  by_cases hlt:k < n
  ·have hx1:k < xs.length:=by have:=HX.out;omega
   have hy1:k < ys.length:=by have:=HY.out;omega
   obtain⟨b1,off1,rfl,_,hcx⟩:=HA.out.ints hx1
   obtain⟨b2,off2,rfl,_,hcy⟩:=HB.out.ints hy1
   have hd:=differ hx1 hy1
   have htk:xs[k]=ys[k]→xs.take (k+1)=ys.take (k+1):=fun e=>by
    rw [List.take_succ_eq_append_getElem hx1,List.take_succ_eq_append_getElem hy1,ht.out,e]
   have HD:=hid hd
   have HT:=hid htk
   clear hd htk
   by_cases he:xs[k]=ys[k]
   ·have HTK:=hid (HT.out he)
    rw [← he] at hcy
    clear HD HT he
    generalize xs[k]=x at hcx hcy
    have h0:(0:Int)≤(k:Int):=by omega
    have h1:(k:Int) < (n:Int):=by omega
    go_wp2_with fail
    go_quiet (fail)
    go_wp2
    go_roundw
    case rel=>exact⟨k+1,_,by omega,by go_num,HTK,hid rfl⟩
    case measure=>simp [intOf];omega
   ·have hF:=HD.out he
    have hbf:b=false:=by rw [← HBB.out,hF]
    subst hbf
    clear HD HT hF
    generalize xs[k]=x at hcx he
    generalize ys[k]=y at hcy he
    have hne:(x != y)=true:=by simpa using he
    have h0:(0:Int)≤(k:Int):=by omega
    have h1:(k:Int) < (n:Int):=by omega
    go_wp2_with fail
    go_quiet (fail)
    go_wp2
    go_ret
    exact⟨rfl,Kit.below_drewN (Kit.below_drewN HBW.out _) _⟩
  ·have hke:k=n:=by omega
   have hbt:b=true:=by
    rw [← HBB.out]
    have:=ht.out
    rw [hke,List.take_of_length_le (by have:=HX.out;omega),List.take_of_length_le (by have:=HY.out;omega)] at this
    simp [this]
   subst hbt
   go_wp2_with fail
   go_ret
   exact⟨rfl,Kit.below_drewN HBW.out _⟩
end CTensor
end
section
namespace CPad
open Plain CSat CShape CTensor
theorem own_heap {w:World} {base:Nat} {e:TypeId} {g n cap:Nat} {xs:List Value} (h:w.ownsRow base e 1 (.slice (some ⟨g,0,none⟩) n cap) n xs) :
  ∃ rest:List Value,w.heap[g]?=some (.cells (xs ++ rest).toArray e (0,0))∧base≤g∧n≤cap∧cap≤maxLen∧(xs ++ rest).length=cap∧xs.length=n:=by
 rcases h.2 with ⟨h',_⟩ | ⟨g',cap',cur,h',hb,hg,hnc,hcm,hcs,htake⟩
 ·simp at h'
 ·simp only [Value.slice.injEq,Option.some.injEq,Addr.mk.injEq,and_true,true_and] at h'
  obtain⟨rfl,rfl⟩:=h'
  have hx:xs.length=n:=by simpa using h.1
  refine⟨cur.toList.drop n,?_,hb,hnc,hcm,?_,hx⟩
  ·rw [Nat.mul_one] at htake
   rw [← htake,List.take_append_drop];exact hg
  ·rw [Nat.mul_one] at htake hcs
   rw [← htake,List.take_append_drop,Array.length_toList,hcs]
theorem own_of_heap {w:World} {base:Nat} {e:TypeId} {g n cap:Nat} {xs rest:List Value} (hg:w.heap[g]?=some (.cells (xs ++ rest).toArray e (0,0))) (hb:base≤g) (hnc:n≤cap) (hcm:cap≤maxLen) (hl:(xs ++ rest).length=cap) (hx:xs.length=n) :
  w.ownsRow base e 1 (.slice (some ⟨g,0,none⟩) n cap) n xs:=by
 refine⟨by simpa using hx,.inr ⟨g,cap,_,rfl,hb,hg,hnc,hcm,?_,?_⟩⟩
 ·rw [Nat.mul_one,List.size_toArray];exact hl
 ·rw [Nat.mul_one];show (xs ++ rest).take n=xs
  rw [← hx];simp
theorem splice_front {xs rest cs:List Value} {o:Nat} (h:o+cs.length≤xs.length):splice (xs ++ rest) o cs=splice xs o cs ++ rest:=by
 unfold splice
 rw [List.take_append_of_le_length (by omega),List.drop_append_of_le_length h]
 simp
def dataL (F:Nat→Int) (m q:Nat):List Value:=I8s (rowL F q) ++ List.replicate (m - q) (.int .i8 0)
theorem dataL_len (F:Nat→Int) {m q:Nat} (h:q≤m):(dataL F m q).length=m:=by simp [dataL,I8s,rowL];omega
theorem dataL_zero (F:Nat→Int) (m:Nat):dataL F m 0=I8s (List.replicate m 0):=by simp [dataL,I8s,rowL]
theorem dataL_all (F:Nat→Int) (m:Nat):dataL F m m=I8s (rowL F m):=by simp [dataL]
theorem rowL_add (F:Nat→Int) (q l:Nat) (ys:List Int) (hl:ys.length=l) (hy:∀ j,j < l→ys[j]?=some (F (q+j))):rowL F (q+l)=rowL F q ++ ys:=by
 apply List.ext_getElem?
 intro j
 by_cases hj:j < q
 ·rw [List.getElem?_append_left (by simpa [rowL] using hj)]
  simp [rowL,hj,show j < q+l by omega]
 ·rw [List.getElem?_append_right (by simpa [rowL] using Nat.le_of_not_lt hj)]
  rw [show (rowL F q).length=q by simp [rowL]]
  by_cases h2:j - q < l
  ·rw [hy _ h2]
   simp [rowL,show j < q+l by omega,show q+(j - q)=j by omega]
  ·have e1:(rowL F (q+l))[j]?=none:=by simp [rowL];omega
   rw [e1,List.getElem?_eq_none (by omega)]
theorem dataL_splice (F:Nat→Int) {m q l:Nat} (ys:List Int) (hl:ys.length=l) (hy:∀ j,j < l→ys[j]?=some (F (q+j))) (h:q+l≤m):splice (dataL F m q) q (I8s ys)=dataL F m (q+l):=by
 unfold splice dataL
 rw [rowL_add F q l ys hl hy]
 rw [List.take_left' (by simp [I8s,rowL]),List.drop_append,List.drop_eq_nil_of_le (by simp [I8s,rowL])]
 simp only [I8s,List.length_map,List.map_append,List.append_assoc,List.nil_append]
 rw [show (rowL F q).length=q by simp [rowL],hl,List.drop_replicate]
 congr 3
 omega
theorem line_set {F:Nat→Int} {q l i:Nat} {ys:List Int} {x:Int} (hl:ys.length=l) (hy:∀ j,j < i→ys[j]?=some (F (q+j))) (hi:i < l) (hx:F (q+i)=x) :
  (ys.set i x).length=l∧∀ j,j < i+1→(ys.set i x)[j]?=some (F (q+j)):=by
 refine⟨by simpa using hl,fun j hj=>?_⟩
 rw [List.getElem?_set]
 by_cases e:i=j
 ·subst e
  rw [if_pos rfl,if_pos (by omega),hx]
 ·rw [if_neg e]
  exact hy j (by omega)
theorem I8s_set (ys:List Int) (i:Nat) (x:Int):(I8s ys).set i (.int .i8 x)=I8s (ys.set i x):=by simp [I8s,List.map_set]
theorem own_nonempty {w:World} {base:Nat} {e:TypeId} {n:Nat} {v:Value} {xs:List Value} (h:w.ownsRow base e 1 v n xs) (hn:0 < n):∃ g cap,v=.slice (some ⟨g,0,none⟩) n cap∧n≤cap∧cap≤maxLen∧base≤g∧g < w.heap.size:=by
 rcases h.2 with ⟨_,h0⟩ | ⟨g,cap,cur,h',hb,hg,hnc,hcm,_,_⟩
 ·omega
 ·refine⟨g,cap,h',hnc,hcm,hb,?_⟩
  rcases Nat.lt_or_ge g w.heap.size with hlt | hge
  ·exact hlt
  ·rw [Array.getElem?_eq_none hge] at hg;cases hg
end CPad
end
end Go.Proofs.YtahekhpeomcfjaaGreatDoor
