/- -/
import Derived.Deep.OwnRows
import Derived.Test.YtahekhpeomcfjaaGreatDoorGJ9
open Go.Lib (hid)
open Nat (le_refl lt_of_succ_lt lt_succ_self)
set_option linter.unusedVariables false
set_option linter.unusedSimpArgs false
set_option maxRecDepth 100000
set_option maxHeartbeats 16000000
namespace Go.Proofs.YtahekhpeomcfjaaGreatDoor
namespace CSat
end CSat
namespace CShape
end CShape
open Go Go.ChangeShapes Go.WideShapes Go.ChangeAt Go.RowKit
section
namespace CWheel
open FloatNum CFour
def Three (g:Nat) (a b c:Value) (w:World):Prop:=w.cell? ⟨g,0,none⟩=some a∧w.cell? ⟨g,1,none⟩=some b∧w.cell? ⟨g,2,none⟩=some c∧g < w.heap.size
def set3 (g:Nat) (a b c:Value) (w:World):World:=((w.setCell ⟨g,0,none⟩ a).setCell ⟨g,1,none⟩ b).setCell ⟨g,2,none⟩ c
theorem there3 (w:World) (v:Value) (T:TypeId):(w.alloc (.cells #[v,v,v] T)).there w.heap.size 0 3:=fun j hj=>by
 rw [Nat.zero_add]
 rcases j with _ | _ | _ | j
 ·exact⟨by go_cell,by go_cell⟩
 ·exact⟨by go_cell,by go_cell⟩
 ·exact⟨by go_cell,by go_cell⟩
 ·omega
theorem Three.new (w:World) (v a b c:Value) (T:TypeId):Three w.heap.size a b c (set3 w.heap.size a b c (w.alloc (.cells #[v,v,v] T))):=by
 have h:=there3 w v T
 unfold set3
 refine⟨?_,?_,?_,by simp⟩
 ·rw [World.cell?_setCell_other _ _ _ _ (by intro q;cases q),World.cell?_setCell_other _ _ _ _ (by intro q;cases q)]
  exact World.cell?_setCell_same' _ _ _ (h 0 (by omega)).1
 ·rw [World.cell?_setCell_other _ _ _ _ (by intro q;cases q)]
  refine World.cell?_setCell_same' _ _ _ ?_
  rw [World.cell?_setCell_other _ _ _ _ (by intro q;cases q)];exact (h 1 (by omega)).1
 ·refine World.cell?_setCell_same' _ _ _ ?_
  rw [World.cell?_setCell_other _ _ _ _ (by intro q;cases q),World.cell?_setCell_other _ _ _ _ (by intro q;cases q)];exact (h 2 (by omega)).1
theorem below_set3 {B g:Nat} {a w:World} (h:Below B a w) (hg:B≤g) (x y z:Value):Below B a (set3 g x y z w):=((h.setCell (p:=⟨g,0,none⟩) hg x).setCell (p:=⟨g,1,none⟩) hg y).setCell (p:=⟨g,2,none⟩) hg z
theorem one3 (a b c:Int):(#[Value.int .i8 a,.int .i8 b,.int .i8 c].all (·.oneCell'))=true :=
 all_oneCell_toArray (cs:=[Value.int .i8 a,.int .i8 b,.int .i8 c]) (by intro v hv;simp at hv;rcases hv with rfl | rfl | rfl <;> rfl)
theorem one2 (a b:Int):(#[Value.int .i64 a,.int .i64 b].all (·.oneCell'))=true :=
 all_oneCell_toArray (cs:=[Value.int .i64 a,.int .i64 b]) (by intro v hv;simp at hv;rcases hv with rfl | rfl <;> rfl)
theorem oneL {S:Nat→Value} {p:Nat→G} (h:∀ i,i < 4→IsC (S i) (p i)):∀ u∈[S 0,S 1,S 2,S 3],u.oneCell'=true:=by
 have:=oneC h
 simp at this
 intro u hu
 simp at hu
 rcases hu with rfl | rfl | rfl | rfl
 ·exact this.1
 ·exact this.2.1
 ·exact this.2.2.1
 ·exact this.2.2.2
theorem Two.rd {g:Nat} {a b:Value} {w:World} (h:Two g a b w):Kit.Rd w w.heap.size (some ⟨g,0,none⟩) [a,b]:=fun j v hj=>by
 refine⟨_,rfl,h.2.2.2,?_⟩
 rw [Go.WideShapes.add_plain]
 match j,hj with
 | 0,hj=>simpa [← hj] using h.1
 | 1,hj=>simpa [← hj] using h.2.1
theorem zcn {w:World} {e:TypeId} {g c n:Nat} {xs:List Value} (h:w.ownsRow g e 1 (.slice (some ⟨g,0,none⟩) n c) n xs):g < w.heap.size:=Kit.zao h
theorem added_yes (A:Option Addr) (rows:List (List Int)) (n cA:Nat) (AW:Option Addr) (cW:Nat) (W:Nat→Nat→Int) (L m:Nat) (hn:rows.length=n) (h1:1≤n) (hN:n≤1024) (hL:∀ row∈rows,row.length=L) (hm:m+2=L) (hm1:1≤m) (hL6:L≤1000000)
  (hX:∀ k i,In16 (XR rows k i)) (hW:∀ k i,InW (W k i)) (F:Nat→Int) (hF:F=mnAt (XR rows) W n) (w:World) (hr:Kit.zbr w w.heap.size .i16 A rows) (hw:Wts w w.heap.size AW n W) :
  Calls Tryz.prog 151 #[.slice A n cA,.slice AW n cW] w (Own64 w m (nums F m)):=by
 obtain⟨ba,oa,Ak,m0,ck,rfl,hba,hca,e1,e2,e3,hrd⟩:=hr.row (i:=0) (by omega)
 have hmL:m0=L:=by rw [← e1];exact hL _ (List.getElem_mem _)
 subst hmL
 have k1:(0:Int) < (n:Int):=by omega
 have k2:IntKind.i64.wrap ((m0:Int) - 3)=(m0:Int) - 3:=IntWalk.i64_in _ (by omega)
 have k3:IntKind.i64.wrap ((m0:Int) - 3+1)=(m:Int):=by rw [IntWalk.i64_in _ (by omega)];omega
 have k4:¬ (m:Int) < 1:=by omega
 have hm6:m≤1000000:=by omega
 rw [Nat.add_zero] at hca
 have HN:=hid hn
 have HL:=hid hL
 have HXX:=hid hX
 have HWW:=hid hW
 have HR:=hid hr
 have HW:=hid hw
 have HCA:=hid hca
 have HMM:=hid hm
 have HFF:=hid hF
 obtain⟨i0,hi0,hi1,hi2,hi3⟩:=info_parts info_i64
 obtain⟨i4,hj0,hj1,hj2,hj3⟩:=info_parts info_c4
 have HI:=hid (And.intro hi0 (And.intro hi1 (And.intro hi2 hi3)))
 have HJ:=hid (And.intro hj0 (And.intro hj1 (And.intro hj2 hj3)))
 clear hrd e1 hL hr hn e3 hX hW hw hm hF hi0 hi1 hi2 hi3 hj0 hj1 hj2 hj3
 go_enter Tryz.func151,Tryz.ntmps151
 go_wp2
 refine Kit.zb2 0 rfl ?_
 go_upto_region 6 with (at_make;refine wpList_make_own _ rfl _ _ 180 rfl w.heap.size 2 i0 (.int .i64 0) 1 Tryz.underlying180 HI.out.1 HI.out.2.1 HI.out.2.2.1 _ _ _ m rfl rfl (by omega) (by rw [HI.out.2.2.2];omega) (by unfold maxLen;omega) (le_refl _) ?_;intro w1 hown1 hg1)
 have HO1:=hid hown1
 have hlt1:w.heap.size < w1.heap.size:=zcn hown1
 have HB1:Hid (Below w.heap.size w w1):=hid ((Below.refl w.heap.size w).grown hg1 (le_refl _) (fun q hq=>by cases hq))
 clear hown1 hg1 hca
 go_wp2_with fail
 go_loopw [6,24] (fun v u wr=>∃ (k:Nat) (Fl:List Value),k≤n∧u=.int .i64 k∧Hid (WF W k Fl)∧Hid (wr.ownsRow (w.heap.size+1) 217 4 v k Fl)∧Hid (wr.ownsRow w.heap.size 2 1 (.slice (some ⟨w.heap.size,0,none⟩) 0 m) 0 (I64v (nums F 0)))∧Hid (Below w.heap.size w wr)) (fun _ u _=>n - (intOf u).toNat)
 case atStart=>exact⟨0,[],Nat.zero_le _,rfl,hid (WF.start W),hid (own_nil _ _ _ _),HO1,HB1⟩
 case round =>
  clear HO1 HB1 hlt1
  obtain⟨k,Fl,hk,rfl,HF,HO,HS,HB⟩:=hrel
  by_cases hlt:k < n
  ·have hkI:(k:Int) < (n:Int):=by omega
   have hk0:(0:Int)≤(k:Int):=by omega
   obtain⟨bw,ow,rfl,hbw,hcw⟩:=HW.out k hlt
   have HRW:=hid (zcg hcw HB.out hbw)
   have hz0:w.heap.size < wr.heap.size:=zcn HS.out
   have HZ0:=hid hz0
   have hx0:=HWW.out k 0
   have hx1:=HWW.out k 1
   have hx2:=HWW.out k 2
   generalize hq0:W k 0=x0 at hx0 HRW
   generalize hq1:W k 1=x1 at hx1 HRW
   generalize hq2:W k 2=x2 at hx2 HRW
   have HQ:=hid (And.intro hq0 (And.intro hq1 hq2))
   have HXI:=hid (And.intro hx0 (And.intro hx1 hx2))
   clear hcw hq0 hq1 hq2 hx0 hx1 hx2
   go_upto_region 9 with (first
    | (refine wpList_load_mid rfl 200 (.tmp 26) rfl bw (ow+k * 3) rfl [.int .i8 x0,.int .i8 x1,.int .i8 x2] _ HRW.out Tryz.underlying200 rfl (by kernel_rfl) ?_)
    | (refine wpList_store_mid rfl 200 (.tmp 9) (.tmp 27) rfl wr.heap.size 0 #[.int .i8 x0,.int .i8 x1,.int .i8 x2] rfl rfl (there3 wr (.int .i8 0) 200) (by kernel_rfl) (one3 _ _ _) ?_;change wpList _ _ _ _ _ (set3 wr.heap.size (.int .i8 x0) (.int .i8 x1) (.int .i8 x2) (wr.alloc (.cells #[.int .i8 0,.int .i8 0,.int .i8 0] 200)))))
   have hal:Below wr.heap.size wr (set3 wr.heap.size (.int .i8 x0) (.int .i8 x1) (.int .i8 x2) (wr.alloc (.cells #[.int .i8 0,.int .i8 0,.int .i8 0] 200))):=below_set3 ((Below.refl wr.heap.size wr).alloc (le_refl _) (.cells #[.int .i8 0,.int .i8 0,.int .i8 0] 200)) (le_refl _) _ _ _
   obtain⟨c0,c1,c2,hg3⟩:=Three.new wr (.int .i8 0) (.int .i8 x0) (.int .i8 x1) (.int .i8 x2) 200
   replace HO:=hid (Kit.own_below HO.out hal)
   replace HS:=hid (Kit.own_below HS.out hal)
   replace HB:=hid (HB.out.trans (hal.mono HB.out.size))
   generalize set3 wr.heap.size (.int .i8 x0) (.int .i8 x1) (.int .i8 x2) (wr.alloc (.cells #[.int .i8 0,.int .i8 0,.int .i8 0] 200))=w2 at c0 c1 c2 hg3 HO HS HB ⊢
   clear hal HRW hz0
   go_wp2_with (first
    | (go_at_call 164;refine (rolled_to x0 x1 x2 HXI.out.1 HXI.out.2.1 HXI.out.2.2 _).mono ?_;rintro e w3' ⟨⟨S,rfl,hS⟩,hb⟩;have HSS:=hid hS;replace HO:=hid (Kit.own_below HO.out hb);replace HS:=hid (Kit.own_below HS.out hb);replace HB:=hid (HB.out.trans (hb.mono HB.out.size));clear hb hS)
    | (at_builtin;refine Kit.zal _ rfl (.tmp 28) (.tmp 31) _ rfl (w.heap.size+1) 217 i4 (.agg #[z0,z0,z0,z0]) 4 64 Tryz.underlying215 HJ.out.1 HJ.out.2.1 HJ.out.2.2.1 HJ.out.2.2.2 rfl (by decide) _ k Fl rfl (Kit.own_below HO.out ((Below.refl _ _).alloc (le_refl _) _)) _ _ 1 1 [S 0,S 1,S 2,S 3] rfl rfl (Kit.Rd.new _ _ _ (lt_succ_self _)) ?_ ?_ ?_ ?_ ?_;(exact oneL HSS.out);(unfold maxLen;omega);(omega);(have:=zcn HS.out;simp;omega);intro v2 w4 hown2 hg2 hat2;have hS4:=(Kit.own_below HS.out ((Below.refl w3'.heap.size w3').alloc (le_refl _) (.cells #[S 0,S 1,S 2,S 3] 217))).kept hg2 (.inr (fun e=>absurd (Kit.zaj HO.out w.heap.size e.symm) (Nat.not_succ_le_self _)));have hB4:Below w.heap.size w w4:=(HB.out.alloc HB.out.size _).grown hg2 (by have:=HB.out.size;simp;omega) (fun q hq=>by have:=Kit.zaj HO.out q hq;omega);have HF2:=hid (HF.out.step (S:=S) (by rw [HQ.out.1,HQ.out.2.1,HQ.out.2.2];exact HSS.out));have HO4:=hid hown2;have HS4:=hid hS4;have HB4:=hid hB4;clear hS4 hB4 hown2 hg2 hat2 c0 c1 c2 hg3))
   go_roundw
   case rel=>exact⟨k+1,_,by omega,by go_num,HF2,HO4,HS4,HB4⟩
   case measure=>simp [intOf];omega
  ·obtain rfl:k=n:=by omega
   obtain⟨gW,capW,rfl,hgW,hc1,hc2,hrw⟩:=Kit.own_form HO.out (by omega)
   have hwa:=WhAt.of HF.out hrw (Kit.zao HO.out)
   have HWA:=hid hwa
   have hnw:¬ w.heap.size=gW:=by omega
   have hca:=(HB.out.cell (p:=⟨ba,oa,none⟩) hba).trans HCA.out
   obtain⟨Bn,hBn⟩:∃ Bn,(m0 - 1) / 2=Bn:=⟨_,rfl⟩
   have hBi:(Bn:Int)=if (m0:Int) < 3 then 0 else ((m0:Int) - 1) / 2:=by have:=HMM.out;rw [if_neg (by omega)];omega
   have HBI:=hid hBi
   have hBb:2 * Bn≤m+1∧m≤2 * Bn:=by have:=HMM.out;omega
   have HBN:=hid hBb
   clear hrw hwa hBi HF HO hBn hBb hc1 hc2
   go_wp2_with (go_at_call 165;refine (blocks_to (m0:Int) (by omega) (by omega) (Bn:Int) HBI.out _).mono ?_;rintro e w2 ⟨rfl,rfl⟩)
   clear hca
   go_loopw [5,39] (fun v u wx=>∃ (b s:Nat),b≤Bn∧u=.int .i64 b∧s=min (b * 2) m∧Hid (wx.ownsRow w.heap.size 2 1 v s (I64v (nums F s)))∧Hid (WhAt wx gW k W)∧Hid (v.ownBlock≠some gW)∧Hid (Below w.heap.size w wx)) (fun _ u _=>Bn - (intOf u).toNat)
   case atStart=>exact⟨0,0,Nat.zero_le _,rfl,by simp,HS,HWA,hid (fun e=>hnw (Option.some.inj e)),HB⟩
   case round =>
    clear HS HWA HB
    obtain⟨b,s,hb,rfl,hs,HO,HWA,HNE,HB⟩:=hrel
    have hB2:=HBN.out
    by_cases hlt2:b < Bn
    ·obtain⟨f,hf⟩:∃ f,b * 2=f:=⟨_,rfl⟩
     obtain rfl:s=f:=by omega
     have k5:IntKind.i64.wrap ((b:Int) * 2)=(s:Int):=by rw [IntWalk.i64_in _ (by omega)];omega
     have k6:(b:Int) < (Bn:Int):=by omega
     have hsm:s < m:=by omega
     obtain⟨As,cs,rfl,hs1,hs2,hs3⟩:=Kit.zam HO.out
     obtain⟨y0,hy0⟩:∃ y,F s=y:=⟨_,rfl⟩
     obtain⟨y1,hy1⟩:∃ y,F (s+1)=y:=⟨_,rfl⟩
     have HY0:=hid hy0
     have HY1:=hid hy1
     have HSB:=hid (And.intro hf hs)
     have HFM:Hid (s+3≤m0):=hid (by have:=HMM.out;omega)
     clear hs3 hy0 hy1 hf hs
     go_upto_region 15 with (first
      | (go_at_call 167;refine (turned_to (some ⟨ba,oa,none⟩) rows k cA (some ⟨gW,0,none⟩) capW W m0 s HN.out hN HL.out HFM.out HXX.out HWW.out _ ((HR.out.below HB.out).more HB.out.size) HWA.out.wheels).mono ?_;rintro e w2 ⟨⟨S,p,rfl,hS,hT⟩,hbb⟩;have HSS:=hid hS;have HTT:=hid hT;replace HO:=hid (Kit.own_below HO.out hbb);replace HWA:=hid (HWA.out.below hbb HWA.out.1);replace HB:=hid (HB.out.trans (hbb.mono HB.out.size));clear hbb hS hT)
      | (go_at_call 166;refine (unrolled_to S p (k * 134217728) (by omega) HSS.out HTT.out.bound _ HTT.out.back y0 y1 (by rw [← HY0.out,HFF.out];rfl) (by rw [← HY1.out,HFF.out];rfl) _).mono ?_;rintro e w3' ⟨rfl,hbb⟩;replace HO:=hid (Kit.own_below HO.out hbb);replace HWA:=hid (HWA.out.below hbb HWA.out.1);replace HB:=hid (HB.out.trans (hbb.mono HB.out.size));clear hbb)
      | (refine wpList_store_mid rfl 219 (.tmp 11) (.tmp 47) rfl w3'.heap.size 0 #[.int .i64 y0,.int .i64 y1] rfl rfl (Two.new w3' (.int .i64 0) (.int .i64 0) 219).there (by kernel_rfl) (one2 _ _) ?_;change wpList _ _ _ _ _ (CFour.set2 w3'.heap.size (.int .i64 y0) (.int .i64 y1) (w3'.alloc (.cells #[.int .i64 0,.int .i64 0] 219)))))
     have hal:Below w3'.heap.size w3' (CFour.set2 w3'.heap.size (.int .i64 y0) (.int .i64 y1) (w3'.alloc (.cells #[.int .i64 0,.int .i64 0] 219))):=zcc ((Below.refl w3'.heap.size w3').alloc (le_refl _) (.cells #[.int .i64 0,.int .i64 0] 219)) (le_refl _) _ _
     have h219:=(Two.new w3' (.int .i64 0) (.int .i64 0) 219).set2 (.int .i64 y0) (.int .i64 y1)
     replace HO:=hid (Kit.own_below HO.out hal)
     replace HWA:=hid (HWA.out.below hal HWA.out.1)
     replace HB:=hid (HB.out.trans (hal.mono HB.out.size))
     generalize CFour.set2 w3'.heap.size (.int .i64 y0) (.int .i64 y1) (w3'.alloc (.cells #[.int .i64 0,.int .i64 0] 219))=w4 at h219 HO HWA HB ⊢
     have H219:=hid (Two.rd h219)
     clear hal h219
     by_cases h2:s+2≤m
     ·have q1:IntKind.i64.wrap ((m:Int) - (s:Int))=(m:Int) - (s:Int):=IntWalk.i64_in _ (by omega)
      have q2:(2:Int)≤(m:Int) - (s:Int):=by omega
      have q3:¬ (m:Int) - (s:Int) < 2:=by omega
      go_wp2_with (at_builtin;refine Kit.zal _ rfl (.tmp 48) (.tmp 54) _ rfl w.heap.size 2 i0 (.int .i64 0) 1 8 Tryz.underlying180 HI.out.1 HI.out.2.1 HI.out.2.2.1 HI.out.2.2.2 rfl (by decide) _ s (I64v (nums F s)) rfl HO.out _ _ 2 2 [.int .i64 y0,.int .i64 y1] rfl rfl H219.out ?_ ?_ ?_ ?_ ?_;(exact (Kit.zbj .i64 [y0,y1]));(unfold maxLen;omega);(omega);(exact HB.out.size);intro v2 w5 hown2 hg2 hat2)
      have hne2:v2.ownBlock≠some gW:=by
       rcases hat2 with h | h
       ·rw [h];exact HNE.out
       ·rw [h];intro e;have:=HWA.out.1;have e2:=Option.some.inj e;omega
      have HWA5:=hid (HWA.out.grown hg2 HNE.out)
      have HB5:Hid (Below w.heap.size w w5):=hid (HB.out.grown hg2 HB.out.size (fun q hq=>Kit.zaj HO.out q hq))
      have e5:I64v (nums F s) ++ [.int .i64 y0,.int .i64 y1]=I64v (nums F (s+2)):=by rw [show s+2=s+1+1 from rfl];simp only [nums_succ,List.map_append,List.append_assoc];rw [HY0.out,HY1.out];rfl
      rw [e5] at hown2
      have HO5:=hid hown2
      have HNE5:=hid hne2
      clear hown2 hg2 hat2 hne2 e5
      go_roundw
      case rel=>exact⟨b+1,s+2,by omega,by go_num,by have:=HSB.out;omega,HO5,HWA5,HNE5,HB5⟩
      case measure=>simp [intOf];omega
     ·have q1:IntKind.i64.wrap ((m:Int) - (s:Int))=1:=by rw [IntWalk.i64_in _ (by omega)];omega
      go_wp2_with (at_builtin;refine Kit.zal _ rfl (.tmp 48) (.tmp 54) _ rfl w.heap.size 2 i0 (.int .i64 0) 1 8 Tryz.underlying180 HI.out.1 HI.out.2.1 HI.out.2.2.1 HI.out.2.2.2 rfl (by decide) _ s (I64v (nums F s)) rfl HO.out _ _ 1 2 [.int .i64 y0] rfl rfl (H219.out.take 1) ?_ ?_ ?_ ?_ ?_;(exact (Kit.zbj .i64 [y0]));(unfold maxLen;omega);(omega);(exact HB.out.size);intro v2 w5 hown2 hg2 hat2)
      have hne2:v2.ownBlock≠some gW:=by
       rcases hat2 with h | h
       ·rw [h];exact HNE.out
       ·rw [h];intro e;have:=HWA.out.1;have e2:=Option.some.inj e;omega
      have HWA5:=hid (HWA.out.grown hg2 HNE.out)
      have HB5:Hid (Below w.heap.size w w5):=hid (HB.out.grown hg2 HB.out.size (fun q hq=>Kit.zaj HO.out q hq))
      have e5:I64v (nums F s) ++ [.int .i64 y0]=I64v (nums F (s+1)):=by rw [nums_succ,HY0.out];show _=(nums F s ++ [y0]).map _;rw [List.map_append];rfl
      rw [e5] at hown2
      have HO5:=hid hown2
      have HNE5:=hid hne2
      clear hown2 hg2 hat2 hne2 e5
      go_roundw
      case rel=>exact⟨b+1,s+1,by omega,by go_num,by have:=HSB.out;omega,HO5,HWA5,HNE5,HB5⟩
      case measure=>simp [intOf];omega
    ·obtain rfl:b=Bn:=by omega
     obtain rfl:s=m:=by omega
     obtain⟨As,cs,rfl, -, -, -⟩:=Kit.zam HO.out
     go_wp2
     go_step3
     go_wp2
     go_ret
     exact⟨_,rfl,HO.out,HB.out⟩
theorem added_to (A:Option Addr) (rows:List (List Int)) (n cA:Nat) (AW:Option Addr) (cW:Nat) (W:Nat→Nat→Int) (L m:Nat) (hn:rows.length=n) (h1:1≤n) (hN:n≤1024) (hL:∀ row∈rows,row.length=L) (hm:m=L - 2) (hL6:L≤1000000)
  (hX:∀ k i,In16 (XR rows k i)) (hW:∀ k i,InW (W k i)) (F:Nat→Int) (hF:F=mnAt (XR rows) W n) (w:World) (hr:Kit.zbr w w.heap.size .i16 A rows) (hw:Wts w w.heap.size AW n W) :
  Calls Tryz.prog 151 #[.slice A n cA,.slice AW n cW] w (Own64 w m (nums F m)):=by
 rcases Nat.lt_or_ge L 3 with h | h
 ·obtain rfl:m=0:=by omega
  refine (added_short A rows n cA _ L hn h1 hL h w hr).mono ?_
  rintro e w' ⟨rfl,rfl⟩
  exact⟨_,rfl,own_nil _ _ _ _,Below.refl _ _⟩
 ·exact added_yes A rows n cA AW cW W L m hn h1 hN hL (by omega) (by omega) hL6 hX hW F hF w hr hw
/-! ### many rows -/
def fitB (rows:List (List Int)) (nW:Nat):Bool:=decide (rows.length=nW∧1≤rows.length∧rows.length≤1024) && rows.all (fun row=>row.length == (rows.getD 0 []).length)
theorem fit_yes {rows:List (List Int)} {nW:Nat} (h:fitB rows nW=true):rows.length=nW∧1≤rows.length∧rows.length≤1024∧∀ row∈rows,row.length=(rows.getD 0 []).length:=by
 simp only [fitB,Bool.and_eq_true,decide_eq_true_eq,List.all_eq_true,beq_iff_eq] at h
 exact⟨h.1.1,h.1.2.1,h.1.2.2,h.2⟩
theorem fit_of {rows:List (List Int)} {nW:Nat} (h1:rows.length=nW) (h2:1≤rows.length) (h3:rows.length≤1024) (h4:∀ k (hk:k < rows.length),rows[k].length=(rows.getD 0 []).length):fitB rows nW=true:=by
 simp only [fitB,Bool.and_eq_true,decide_eq_true_eq,List.all_eq_true,beq_iff_eq]
 refine⟨⟨h1,h2,h3⟩,fun row hr=>?_⟩
 obtain⟨k,hk,rfl⟩:=List.mem_iff_getElem.1 hr
 exact h4 k hk
theorem fit_no {rows:List (List Int)} {nW k:Nat} (hk:k < rows.length) (h:¬ rows[k].length=(rows.getD 0 []).length):fitB rows nW=false:=by
 cases hb:fitB rows nW
 ·rfl
 ·exact absurd ((fit_yes hb).2.2.2 _ (List.getElem_mem hk)) h
theorem fit_not {rows:List (List Int)} {nW:Nat} (h:¬ (rows.length=nW∧1≤rows.length∧rows.length≤1024)):fitB rows nW=false:=by
 cases hb:fitB rows nW
 ·rfl
 ·have:=fit_yes hb
  exact absurd ⟨this.1,this.2.1,this.2.2.1⟩ h
theorem row0 {rows:List (List Int)} (h:0 < rows.length):rows.getD 0 []=rows[0]:=by
 rw [List.getD_eq_getElem?_getD,List.getElem?_eq_getElem h];rfl
theorem matched_to (A:Option Addr) (rows:List (List Int)) (n cA:Nat) (AW:Option Addr) (nW cW:Nat) (hn:rows.length=n) (hc:cA≤maxLen) (hnc:n≤cA) (hm:nW≤1000000) (b:Bool) (hb:fitB rows nW=b) (w:World) (hr:Kit.zbr w w.heap.size .i16 A rows) :
  Calls Tryz.prog 150 #[.slice A n cA,.slice AW nW cW] w fun e' w'=>e'=.returned (.bool b)∧w=w':=by
 by_cases h1:n=nW
 ·by_cases h2:1≤n
  ·by_cases h3:n≤1024
   ·subst h1
    obtain⟨b0,o0,A0,L0,c0,rfl,hb0,hc0,e0,e1,e2, -⟩:=hr.row (i:=0) (by omega)
    rw [Nat.add_zero] at hc0
    have k1:(0:Int) < (n:Int):=by omega
    have k2:¬ (n:Int) < 1:=by omega
    have k3:¬ (n:Int) > 1024:=by omega
    have HR:=hid hr
    have HN:=hid hn
    have HC:=hid hc0
    have hz0:(rows.getD 0 []).length=L0:=by rw [row0 (by omega)];exact e0
    have HZ:=hid hz0
    have HBB:=hid hb
    clear hr hn e0 e1 e2 hz0 hb
    go_enter Tryz.func150,Tryz.ntmps150
    go_wp2_with fail
    go_loopw [24] (fun u wr=>∃ k:Nat,k≤n∧u=.int .i64 k∧Hid (∀ j (hj:j < rows.length),j < k→rows[j].length=L0)∧wr=w) (fun u _=>n - (intOf u).toNat)
    case atStart=>exact⟨0,Nat.zero_le _,rfl,hid (fun j _ hj=>by omega),rfl⟩
    case round =>
     obtain⟨k,hk,rfl,HA,rfl⟩:=hrel
     by_cases hlt:k < n
     ·have hkI:(k:Int) < (n:Int):=by omega
      have hk0:(0:Int)≤(k:Int):=by omega
      obtain⟨bk,ok,Ak,Lk,ck,hA,hbk,hck,ek, -⟩:=HR.out.row (i:=k) (by have:=HN.out;omega)
      obtain⟨rfl,rfl⟩:b0=bk∧o0=ok:=by simpa using hA
      have EK:=hid ek
      have hc00:=HC.out
      clear ek hA
      by_cases h4:Lk=L0
      ·subst h4
       have HA2:Hid (∀ j (hj:j < rows.length),j < k+1→rows[j].length=Lk):=hid (fun j hj h=>by
        rcases Nat.lt_or_ge j k with h5 | h5
        ·exact HA.out j hj h5
        ·obtain rfl:j=k:=by omega
         exact EK.out)
       go_wp2_with fail
       go_roundw
       case rel=>exact⟨k+1,by omega,by go_num,HA2,by first | rfl | trivial⟩
       case measure=>simp [intOf];omega
      ·have h5:¬ (Lk:Int)=(L0:Int):=by omega
       have hf:fitB rows n=false:=fit_no (k:=k) (by have:=HN.out;omega) (by rw [EK.out,HZ.out];exact h4)
       rw [HBB.out] at hf
       subst hf
       clear h4 HBB
       go_wp2_with fail
       go_ret
       exact⟨rfl,rfl⟩
     ·obtain rfl:k=n:=by omega
      have hf:fitB rows k=true:=fit_of HN.out (by have:=HN.out;omega) (by have:=HN.out;omega) (fun j hj=>by rw [HZ.out];exact HA.out j hj (by have:=HN.out;omega))
      rw [HBB.out] at hf
      subst hf
      clear HBB
      go_wp2_with fail
      go_ret
      exact⟨rfl,rfl⟩
   ·obtain rfl:b=false:=by rw [← hb];exact fit_not (by omega)
    subst h1
    have k2:¬ (n:Int) < 1:=by omega
    have k3:(n:Int) > 1024:=by omega
    clear hr hn hb
    go_enter Tryz.func150,Tryz.ntmps150
    go_wp2_with fail
    go_ret
    exact⟨rfl,rfl⟩
  ·obtain rfl:b=false:=by rw [← hb];exact fit_not (by omega)
   subst h1
   have k2:(n:Int) < 1:=by omega
   clear hr hn hb
   go_enter Tryz.func150,Tryz.ntmps150
   go_wp2_with fail
   go_ret
   exact⟨rfl,rfl⟩
 ·obtain rfl:b=false:=by rw [← hb];exact fit_not (by omega)
  have k2:¬ (n:Int)=(nW:Int):=by omega
  clear hr hn h1 hb
  go_enter Tryz.func150,Tryz.ntmps150
  go_wp2_with fail
  go_ret
  exact⟨rfl,rfl⟩
end CWheel
end
section
namespace CTensor
open Plain CSat CShape
theorem mul_one_n (n:Nat) (hn:n < 18446744073709551616) (w:World) :
  Calls Tryz.prog 148 #[.int .u64 1,.int .u64 (n:Int)] w fun e w'=>e=.returned (.tuple #[.int .u64 0,.int .u64 (n:Int)])∧w=w':=by
 have h:=Tryz.bits_Mul 1 n (by omega) hn w
 rw [Nat.one_mul,Nat.div_eq_of_lt hn,Nat.mod_eq_of_lt hn] at h
 exact h.mono fun e w' ⟨he,hw⟩=>⟨he,hw.symm⟩
def partly (x:Int) (n q:Nat):List Value:=List.replicate q (.int .i8 x) ++ List.replicate (n - q) (.int .i8 0)
theorem partly_len (x:Int) {n q:Nat} (h:q≤n):(partly x n q).length=n:=by simp [partly];omega
theorem partly_splice (x:Int) {n q m:Nat} (h:q+m≤n):splice (partly x n q) q (List.replicate m (.int .i8 x))=partly x n (q+m):=by
 unfold splice partly
 rw [List.take_left' (by simp),List.length_replicate,List.drop_append,List.length_replicate,List.drop_eq_nil_of_le (by simp),List.nil_append,List.drop_replicate, ← List.append_assoc,List.replicate_append_replicate]
 congr 2;omega
theorem partly_at (x:Int) {n q j:Nat} (h:j < q):(partly x n q)[j]?=some (.int .i8 x):=by
 unfold partly
 rw [List.getElem?_append_left (by simpa using h),List.getElem?_replicate,if_pos h]
theorem rd_one {w:World} {B:Nat} {A:Option Addr} {x:Value} (h:Kit.Rd w B A [x]):∃ ad,A=some ad∧∀ j v,[x][j]?=some v→w.cell? (ad.add j)=some v:=by
 obtain⟨ad,rfl,_,_⟩:=h 0 x rfl
 refine⟨ad,rfl,fun j v hv=>?_⟩
 obtain⟨ad2,e,_,hc⟩:=h j v hv
 cases e;exact hc
theorem made_partly (w:World) (x:Int) (n:Nat):(w.alloc (.cells (madeCells #[Value.int .i8 0] n) 39)).heap[w.heap.size]?=some (.cells (partly x n 0).toArray 39 (0,0)):=by
 rw [heap_alloc_new]
 refine congrArg (fun a=>some (Obj.cells a 39 (0,0))) ?_
 apply Array.ext'
 rw [toList_madeCells_one]
 simp [partly]
theorem part_src {w:World} {g:Nat} {x:Int} {n q m:Nat} {T:TypeId} (h:w.heap[g]?=some (.cells (partly x n q).toArray T (0,0))) (hm:m≤q) :
  ∀ j v,(List.replicate m (Value.int .i8 x))[j]?=some v→w.cell? ((⟨g,0,none⟩:Addr).add j)=some v:=by
 intro j v hv
 have e:(⟨g,0,none⟩:Addr).add j=⟨g,j,none⟩:=by
  unfold Addr.add;split
  ·rename_i h;subst h;rfl
  ·simp
 rw [List.getElem?_replicate] at hv
 split at hv
 ·rename_i hj
  cases hv
  rw [e]
  unfold World.cell?
  rw [h]
  have:=partly_at x (n:=n) (q:=q) (j:=j) (by omega)
  simpa using this
 ·cases hv
theorem repeat_to (A:Option Addr) (x:Int) (c n:Nat) (h1:1≤n) (hl:n≤1000000) {B:Nat} (w:World) (hB:B≤w.heap.size) (hr:Kit.Rd w B A (I8s [x])) :
  Calls Tryz.prog 136 #[.slice A 1 c,.int .i64 (n:Int)] w (Owned w n (I8s (List.replicate n x))):=by
 have HR:=hid hr
 have hnI:(n:Int)≤1000000:=by omega
 have hnJ:(1:Int)≤(n:Int):=by omega
 have hbig:decide (9223372036854775807 < (n:Int))=false:=by simp;omega
 clear hr
 have hmk:=run_make_row' (P:=Tryz.prog) 25 39 (.int .i8 0) 1 Tryz.underlying25 info_i8 rfl .i64 .i64 n (by omega) (by omega)
 have hsz:(Tryz.prog.info? 39).map (·.size)=some 1:=by kernel_rfl
 have HSZ:=hid hsz
 clear hsz
 go_enter Tryz.func136,Tryz.ntmps136
 go_wp2_with (first
  | (go_at_call 148;(refine (mul_one_n n (by omega) _).mono ?_);rintro e w' ⟨rfl,rfl⟩)
  | (refine wpList_copy_splice rfl (.tmp 31) (.tmp 32) _ _ rfl 39 Tryz.underlying25 HSZ.out (some ⟨w.heap.size,0,none⟩) A n n 1 c rfl rfl w.heap.size 0 (partly x n 0) 39 (made_partly w x n) [.int .i8 x] (by show 1=min 1 n;omega) (fun _=>⟨rfl,rd_one ((HR.out.alloc hB _))⟩) (by rw [partly_len x (Nat.zero_le _)];simpa using h1) (Kit.zbj .i8 [x]) w.heap.size w ((Below.refl _ _).alloc (le_refl _) _) (le_refl _) ?_
     intro w2 HG hb2
     have HB:=hid hb2
     have hsp:=partly_splice x (n:=n) (q:=0) (m:=1) (by omega)
     have HG1:Hid (w2.heap[w.heap.size]?=some (.cells (partly x n 1).toArray 39 (0,0))):=by
      have:=HG.out
      rw [show [Value.int .i8 x]=List.replicate 1 (Value.int .i8 x) from rfl,hsp] at this
      exact hid this
     clear hb2 HG hsp))
 go_loopw [8] (fun i wr=>∃ q:Nat,1≤q∧q≤n∧i=.int .i64 q∧Hid (wr.heap[w.heap.size]?=some (.cells (partly x n q).toArray 39 (0,0)))∧Hid (Below w.heap.size w wr)) (fun i _=>n - (intOf i).toNat)
 case atStart=>exact⟨1,le_refl _,h1,rfl,HG1,HB⟩
 case round =>
  obtain⟨q,hq1,hq,rfl,hG,hBw⟩:=hrel
  clear HG1 HB
  by_cases hlt:q < n
  ·have hqI:(q:Int) < (n:Int):=by omega
   have hqJ:(1:Int)≤(q:Int):=by omega
   have hne:¬ n=q:=by omega
   obtain⟨m,hm⟩:∃ m,min q (n - q)=m:=⟨_,rfl⟩
   have hm1:1≤m:=by omega
   have hmq:m≤q:=by omega
   have hmn:q+m≤n:=by omega
   have HM:=hid hm
   clear hm
   go_wp2_with fail
   refine wp_region_held_drew (S:=fun w'=>True) (by kernel_rfl) trivial (fun hHeld=>?_)
   refine Tk.x 0 rfl ?_
   try simp only [Tk.put]
   refine Tk.x 1 rfl ?_
   try simp only [Tk.put]
   refine Tk.x 2 rfl ?_
   try simp only [Tk.put]
   refine Tk.x 3 rfl ?_
   try simp only [Tk.put]
   refine Tk.x 4 rfl ?_
   try simp only [Tk.put]
   refine Tk.x 5 rfl ?_
   try simp only [Tk.put]
   refine Tk.x 6 rfl ?_
   try simp only [Tk.put]
   refine Tk.s 7 rfl (fun K hK=>?_)
   refine step_copy_splice rfl (.tmp 41) (.tmp 44) _ _ rfl 39 Tryz.underlying25 HSZ.out (some ⟨w.heap.size,q,none⟩) (some ⟨w.heap.size,0,none⟩) (n - q) (n - q) q n rfl rfl w.heap.size q (partly x n q) 39 hG.out (List.replicate m (.int .i8 x)) (by simpa [Nat.min_def] using HM.out.symm) (fun _=>⟨rfl,⟨_,rfl,part_src hG.out hmq⟩⟩) (by rw [partly_len x hq,List.length_replicate];exact hmn) (by intro v hv;rw [List.eq_of_mem_replicate hv];rfl) w.heap.size w hBw.out.drew (le_refl _) ?_
   intro w3 HG3 hb3
   have HB3:=hid hb3
   have HG4:Hid (w3.heap[w.heap.size]?=some (.cells (partly x n (q+m)).toArray 39 (0,0))):=by
    have:=HG3.out
    rw [partly_splice x hmn] at this
    exact hid this
   have hsum:goInt (List.replicate m (Value.int .i8 x)).length=.int .i64 (m:Int):=by simp [goInt]
   rw [hsum]
   clear hb3 HG3 hsum
   have hwr:IntKind.i64.wrap ((q:Int)+(m:Int))=(q:Int)+(m:Int):=IntWalk.i64_in _ (by omega)
   dsimp only
   refine hK.out _ _ ?_ (fun hHeld=>?_)
   ·exact trivial
   clear hK K
   try simp only [Tk.put]
   refine Tk.x 8 rfl ?_
   try simp only [Tk.put]
   refine Tk.x 9 rfl ?_
   try simp only [Tk.put]
   refine wpAnyH_done (by kernel_rfl) ?_ _
   clear hwr
   go_wp2_with fail
   go_roundw
   case rel=>exact⟨q+m,by omega,by omega,by go_num,HG4,HB3⟩
   case measure=>simp [intOf];omega
  ·obtain rfl:q=n:=by omega
   go_wp2_with fail
   go_ret
   refine⟨_,rfl,⟨by simp [I8s],.inr ⟨w.heap.size,q,(partly x q q).toArray,rfl,le_refl _,hG.out,le_refl _,by unfold maxLen;omega,by simp [partly],by simp [partly,I8s]⟩⟩,hBw.out⟩
end CTensor
end
end Go.Proofs.YtahekhpeomcfjaaGreatDoor
