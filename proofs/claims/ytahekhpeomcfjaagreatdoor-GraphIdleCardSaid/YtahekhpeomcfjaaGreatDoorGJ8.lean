/- -/
import Derived.StillTailTactics
import Derived.Deep.CutRange
import Derived.Test.YtahekhpeomcfjaaGreatDoorGJ7
open Go.Lib (hid)
open Nat (le_refl lt_of_succ_lt lt_succ_self)
set_option linter.unusedVariables false
set_option linter.unusedSimpArgs false
set_option maxRecDepth 100000
set_option maxHeartbeats 16000000
namespace Go.Proofs.YtahekhpeomcfjaaGreatDoor
open Go Go.ChangeShapes Go.WideShapes Go.ChangeAt Go.RowKit
section
namespace CWheel
open FloatNum CFour
theorem four_of_heap {w:World} {g:Nat} {a b c d:Value} {T:TypeId} (h:w.heap[g]?=some (.cells #[a,b,c,d] T (0,0))) (S:Nat→Value) (h0:S 0=a) (h1:S 1=b) (h2:S 2=c) (h3:S 3=d):Four g S w:=by
 have hlt:g < w.heap.size:=by
  rcases Nat.lt_or_ge g w.heap.size with h | h
  ·exact h
  ·rename_i h5;rw [Array.getElem?_eq_none h] at h5;cases h5
 refine⟨fun i hi=>?_,fun i hi=>?_,hlt⟩
 ·rw [cell_of_row _ _ _ _ _ _ h]
  obtain rfl | rfl | rfl | rfl:=lt4 hi
  ·rw [h0];rfl
  ·rw [h1];rfl
  ·rw [h2];rfl
  ·rw [h3];rfl
 ·simp [World.frozen?,h]
theorem copy_len {row:List Int} {m f:Nat} (h:row.length=m):(((row.drop f).take 4).map (Value.int .i16)).length=Nat.min (m - f) 4:=by
 simp only [List.length_map,List.length_take,List.length_drop,h]
 exact Nat.min_comm _ _
theorem copy_fit (row:List Int) (f:Nat):0+(((row.drop f).take 4).map (Value.int .i16)).length≤[Value.int .i16 0,.int .i16 0,.int .i16 0,.int .i16 0].length:=by
 simp only [List.length_map,List.length_take,List.length_drop,List.length_cons,List.length_nil]
 omega
theorem copy_src {w:World} {B bx ox:Nat} {row:List Int} {f:Nat} (h:Kit.Rd w B (some ⟨bx,ox,none⟩) (row.map (Value.int .i16))):∀ j v,(((row.drop f).take 4).map (Value.int .i16))[j]?=some v→w.cell? ((⟨bx,ox+f,none⟩:Addr).add j)=some v:=fun j v hj=>by
 rw [List.getElem?_map,List.getElem?_take] at hj
 split at hj
 ·rw [List.getElem?_drop] at hj
  obtain⟨ad,e,_,hc⟩:=h (f+j) v (by rw [List.getElem?_map];exact hj)
  cases e
  rw [Go.WideShapes.add_plain] at hc ⊢
  rw [Nat.add_assoc];exact hc
 ·simp at hj
theorem turned_to (A:Option Addr) (rows:List (List Int)) (n cA:Nat) (AW:Option Addr) (cW:Nat) (W:Nat→Nat→Int) (L f:Nat) (hn:rows.length=n) (hN:n≤1024) (hL:∀ row∈rows,row.length=L) (hf:f+3≤L)
  (hX:∀ k i,In16 (XR rows k i)) (hW:∀ k i,InW (W k i)) (w:World) (hr:Kit.zbr w w.heap.size .i16 A rows) (hw:Wheels w w.heap.size AW n W) :
  Calls Tryz.prog 167 #[.slice A n cA,.slice AW n cW,.int .i64 (f:Int)] w fun e' w'=>(∃ S p,e'=.returned (agg4 S)∧(∀ i,i < 4→IsC (S i) (p i))∧Turns (XR rows) W f n p)∧Below w.heap.size w w':=by
 have HN:=hid hn
 have HL:=hid hL
 have HXX:=hid hX
 have HWW:=hid hW
 have HR:=hid hr
 have HW:=hid hw
 clear hn hL hX hW hr hw
 go_enter Tryz.func167,Tryz.ntmps167
 go_wp2_with fail
 go_loopw [13] (fun u wr=>∃ (k:Nat) (S:Nat→Value) (p:Nat→G),k≤n∧u=.int .i64 k∧Hid (∀ i,i < 4→IsC (S i) (p i))∧Hid (Turns (XR rows) W f k p)∧Hid (Four (w.heap.size+1) S wr)∧Hid (Four w.heap.size (fun _=>z0) wr)∧Hid (Below w.heap.size w wr)) (fun u _=>n - (intOf u).toNat)
 case atStart =>
  have h0:=(Four.new w z0 217).below (Below.refl _ _ |>.alloc (le_refl _) (.cells #[z0,z0,z0,z0] 217)) (by simp)
  have h1:=Four.new (w.alloc (.cells #[z0,z0,z0,z0] 217)) z0 217
  have e1:(w.alloc (.cells #[z0,z0,z0,z0] 217)).heap.size=w.heap.size+1:=by simp
  rw [e1] at h1
  exact⟨0,fun _=>z0,fun _=>(0,0),Nat.zero_le _,rfl,hid (fun i hi=>⟨_,_,rfl,isF_zero,isF_zero⟩),hid (Turns.start _ _ _),hid h1,hid h0,hid (((Below.refl _ _).alloc (le_refl _) _).alloc (by simp) _)⟩
 case round =>
  obtain⟨k,S,p,hk,rfl,HS,HT,HF,HZ,HB⟩:=hrel
  by_cases hlt:k < n
  ·have hkI:(k:Int) < (n:Int):=by omega
   have hk0:(0:Int)≤(k:Int):=by omega
   obtain⟨bw,ow,Sw,rfl,hbw,hSw,hcw⟩:=HW.out k hlt
   obtain⟨ba,oa,Ak,m,ck,rfl,hba,hca,hm1,hm2,hm3,hrd⟩:=HR.out.row (i:=k) (by rw [HN.out];exact hlt)
   have hmL:m=L:=by rw [← hm1];exact HL.out _ (List.getElem_mem _)
   subst hmL
   obtain⟨bx,ox,rfl,hbx,hcx⟩:=hrd.plain (by simp;omega)
   obtain⟨row,hrow⟩:∃ row,rows[k]'(by rw [HN.out];exact hlt)=row:=⟨_,rfl⟩
   have hXk:∀ i,XR rows k i=row.getD i 0:=fun i=>by rw [← hrow];exact XR_at (by rw [HN.out];exact hlt) i
   rw [hrow] at hm1 hcx hrd
   have HRW:=hid (zcg hcw HB.out hbw)
   have HCA:Hid (wr.cell? ⟨ba,oa+k,none⟩=some (.slice (some ⟨bx,ox,none⟩) m ck)):=hid ((HB.out.cell (p:=⟨ba,oa+k,none⟩) hba).trans hca)
   have HRD:=hid (hrd.below HB.out)
   have HSW:=hid hSw
   have HXK:=hid hXk
   have HM1:=hid hm1
   have HNE:Hid (∀ (i:Nat),¬ w.heap.size+1=wr.heap.size+i):=hid (fun i=>by have:=HF.out.2.2;omega)
   have hlt1:=HF.out.2.2
   have hmx:ck≤9223372036854775807:=Nat.le_trans hm3 (by decide)
   have f1:¬ ck=f:=by omega
   have f2:(f:Int)≤(m:Int):=by omega
   have f3:(0:Int)≤(f:Int):=by omega
   have f4:(m:Int)≤(ck:Int):=by omega
   clear hcw hca hrd hcx hSw hXk hm1 hm3 hrow
   go_upto_region 5 with (first
    | (refine wpList_load_mid rfl 217 (.tmp 16) rfl bw (ow+k * 4) rfl [Sw 0,Sw 1,Sw 2,Sw 3] _ HRW.out Tryz.underlying217 rfl (by kernel_rfl) ?_)
    | (refine wpList_store_mid rfl 217 (.tmp 9) (.tmp 17) rfl wr.heap.size 0 #[Sw 0,Sw 1,Sw 2,Sw 3] rfl rfl (Four.new wr z0 217).there (by kernel_rfl) (oneC HSW.out) ?_;change wpList _ _ _ _ _ (CFour.set4 wr.heap.size Sw (wr.alloc (.cells #[z0,z0,z0,z0] 217)))))
   have hal:Below wr.heap.size wr (CFour.set4 wr.heap.size Sw (wr.alloc (.cells #[z0,z0,z0,z0] 217))):=zb9 ((Below.refl wr.heap.size wr).alloc (le_refl _) (.cells #[z0,z0,z0,z0] 217)) (le_refl _) Sw
   have HWH:=hid ((Four.new wr z0 217).set4 Sw)
   have hz1:(CFour.set4 wr.heap.size Sw (wr.alloc (.cells #[z0,z0,z0,z0] 217))).heap.size=wr.heap.size+1:=by simp [CFour.set4]
   replace HF:=hid (HF.out.below hal hlt1)
   replace HZ:=hid (HZ.out.below hal (by omega))
   replace HCA:Hid ((CFour.set4 wr.heap.size Sw (wr.alloc (.cells #[z0,z0,z0,z0] 217))).cell? ⟨ba,oa+k,none⟩=some (.slice (some ⟨bx,ox,none⟩) m ck)):=hid ((hal.cell (p:=⟨ba,oa+k,none⟩) (by show ba < _;omega)).trans HCA.out)
   replace HRD:=hid (HRD.out.below (hal.mono (by omega)))
   replace HB:=hid (HB.out.trans (hal.mono (by omega)))
   generalize CFour.set4 wr.heap.size Sw (wr.alloc (.cells #[z0,z0,z0,z0] 217))=w1 at HWH HF HZ HCA HRD HB hz1 ⊢
   clear hal HRW
   go_upto_region 6 with fail
   have hal:Below w1.heap.size w1 (w1.alloc (.cells #[.int .i16 0,.int .i16 0,.int .i16 0,.int .i16 0] 223)).drew:=((Below.refl w1.heap.size w1).alloc (le_refl _) (.cells #[.int .i16 0,.int .i16 0,.int .i16 0,.int .i16 0] 223)).drew
   have hG:(w1.alloc (.cells #[.int .i16 0,.int .i16 0,.int .i16 0,.int .i16 0] 223)).drew.heap[w1.heap.size]?=some (.cells #[.int .i16 0,.int .i16 0,.int .i16 0,.int .i16 0] 223 (0,0)):=heap_alloc_new w1 _
   have hz2:(w1.alloc (.cells #[.int .i16 0,.int .i16 0,.int .i16 0,.int .i16 0] 223)).drew.heap.size=wr.heap.size+2:=by simp [hz1]
   replace HF:=hid (HF.out.below hal (by omega))
   replace HZ:=hid (HZ.out.below hal (by omega))
   replace HWH:=hid (HWH.out.below hal (by omega))
   have c1:(w1.alloc (.cells #[.int .i16 0,.int .i16 0,.int .i16 0,.int .i16 0] 223)).drew.cell? ⟨ba,oa+k,none⟩=some (.slice (some ⟨bx,ox,none⟩) m ck):=(hal.cell (p:=⟨ba,oa+k,none⟩) (by show ba < _;omega)).trans HCA.out
   replace HRD:=hid (HRD.out.below (hal.mono (by omega)))
   replace HB:=hid (HB.out.trans (hal.mono (by omega)))
   have HG:=hid hG
   clear hal HCA hG
   refine wp_region_still_tail 7 (by kernel_rfl) (by kernel_rfl) ?_
   rw [show ({ (w1.alloc (.cells #[.int .i16 0,.int .i16 0,.int .i16 0,.int .i16 0] 223)) with drawn:=(w1.alloc (.cells #[.int .i16 0,.int .i16 0,.int .i16 0,.int .i16 0] 223)).drawn+1 } : World)=(w1.alloc (.cells #[.int .i16 0,.int .i16 0,.int .i16 0,.int .i16 0] 223)).drew from rfl]
   generalize (w1.alloc (.cells #[.int .i16 0,.int .i16 0,.int .i16 0,.int .i16 0] 223)).drew=w2 at HF HZ HWH c1 HRD HB HG hz2 ⊢
   rw [hz1] at HG
   simp only [List.take_succ_cons,List.take_zero,List.drop_succ_cons,List.drop_zero]
   repeat still_step
   refine wpStill_nil ?_
   refine wpList_copy_splice rfl (.tmp 18) (.tmp 24) _ _ rfl 204 Tryz.underlying184 (by kernel_rfl) (some ⟨wr.heap.size+1,0,none⟩) (some ⟨bx,ox+f,none⟩) 4 4 (m - f) (ck - f) rfl rfl (wr.heap.size+1) 0 [.int .i16 0,.int .i16 0,.int .i16 0,.int .i16 0] 223 HG.out (((row.drop f).take 4).map (Value.int .i16)) (copy_len HM1.out) (fun _=>⟨rfl,_,rfl,copy_src HRD.out⟩) (copy_fit row f) (Kit.zbj _ _) (wr.heap.size+1) w2 (Below.refl _ _) (le_refl _) (fun w3' hH hB3=>?_)
   have hN4:Four (wr.heap.size+1) (fun i=>.int .i16 (l4 (row.getD f 0) (row.getD (f+1) 0) (row.getD (f+2) 0) (row.getD (f+3) 0) i)) w3':=by
    have h8:=hH.out
    rw [splice_four] at h8
    exact four_of_heap h8 _ rfl rfl rfl rfl
   obtain⟨qa,hqa⟩:∃ qa,row.getD f 0=qa:=⟨_,rfl⟩
   obtain⟨qb,hqb⟩:∃ qb,row.getD (f+1) 0=qb:=⟨_,rfl⟩
   obtain⟨qc,hqc⟩:∃ qc,row.getD (f+2) 0=qc:=⟨_,rfl⟩
   obtain⟨qd,hqd⟩:∃ qd,row.getD (f+3) 0=qd:=⟨_,rfl⟩
   rw [hqa,hqb,hqc,hqd] at hN4
   have HQA:=hid (HXX.out k f)
   have HQB:=hid (HXX.out k (f+1))
   have HQC:=hid (HXX.out k (f+2))
   have HQD:=hid (HXX.out k (f+3))
   rw [HXK.out,hqa] at HQA
   rw [HXK.out,hqb] at HQB
   rw [HXK.out,hqc] at HQC
   rw [HXK.out,hqd] at HQD
   have HTN:=hid (HT.out.step ((HXK.out f).trans hqa) ((HXK.out (f+1)).trans hqb) ((HXK.out (f+2)).trans hqc) ((HXK.out (f+3)).trans hqd) rfl rfl rfl HQA.out HQB.out HQC.out HQD.out (HWW.out k 0) (HWW.out k 1) (HWW.out k 2))
   have HPM:=hid (fun i=>wh_mul HQA.out HQB.out HQC.out HQD.out (HWW.out k 0) (HWW.out k 1) (HWW.out k 2) i)
   have HPA:=hid (fun i=>wh_in HQA.out HQB.out HQC.out HQD.out i)
   have HPW:=hid (fun i=>wh_inw (HWW.out k 0) (HWW.out k 1) (HWW.out k 2) i)
   have HAB:Hid (k * 134217728+134217728 < 2 ^ 53):=hid (by omega)
   have HLL:Hid (131072 < 2 ^ 53∧512 < 2 ^ 53∧131072 * 512+131072 * 512 < 2 ^ 53):=hid (by decide)
   have HS1:Hid (wr.heap.size+2≤w3'.heap.size):=hid (by have:=hB3.size;omega)
   replace HF:=hid (HF.out.below hB3 (by omega))
   replace HZ:=hid (HZ.out.below hB3 (by omega))
   replace HWH:=hid (HWH.out.below hB3 (by omega))
   replace HB:=hid (HB.out.trans (hB3.mono (by omega)))
   have HN4:=hid hN4
   have HNN:Hid (w.heap.size≠w.heap.size+1∧wr.heap.size≠w.heap.size+1∧wr.heap.size+1≠w.heap.size+1):=hid ⟨by omega,by omega,by omega⟩
   have HLE:Hid (w.heap.size≤w.heap.size+1):=hid (by omega)
   clear hN4 hqa hqb hqc hqd hB3 hH HG c1 HRD HM1 hz1 hz2 hf f1 f2 f3 f4 hm2 hmx HXK
   generalize hg1:w.heap.size+1=g1 at HF HNN HLE ⊢
   generalize hg3:wr.heap.size+1=g3 at HN4 HNN ⊢
   generalize hg2:wr.heap.size=g2 at HWH HNN ⊢
   simp only [Act.put,List.setIfInBounds_toArray,List.set_cons_zero,List.set_cons_succ]
   generalize (goInt (((row.drop f).take 4).map (Value.int .i16)).length)=vcp
   go_upto_region 7 with fail
   refine wp_region_held_drew (S:=fun W=>Four g3 (fun i=>Value.int .i16 (l4 qa qb qc qd i)) W∧Four g2 Sw W) (by kernel_rfl) ⟨HN4.out.drew,HWH.out.drew⟩ (fun hHeld=>?_)
   replace HF:=hid HF.out.drew
   replace HZ:=hid HZ.out.drew
   replace HN4:=hid HN4.out.drew
   replace HWH:=hid HWH.out.drew
   replace HB:=hid HB.out.drew
   generalize w3'.drew=Wd at HF HZ HN4 HWH HB hHeld ⊢
   have hY1:∀ W,(Four g3 (fun i=>Value.int .i16 (l4 qa qb qc qd i)) W∧Four g2 Sw W)→W.rangeAt g3 0 [.int .i16 qa,.int .i16 qb,.int .i16 qc,.int .i16 qd]:=fun W hW=>zan (hW.1.1 0 (by omega)) (hW.1.1 1 (by omega)) (hW.1.1 2 (by omega)) (hW.1.1 3 (by omega))
   refine Tk.t 1 (v:=.agg #[.int .i16 qa,.int .i16 qb,.int .i16 qc,.int .i16 qd]) rfl (yieldsIf_load_mid (by rfl) _ _ rfl g3 0 rfl [.int .i16 qa,.int .i16 qb,.int .i16 qc,.int .i16 qd] _ hY1 Tryz.underlying223 rfl (by kernel_rfl)) (by assumption) ?_
   try simp only [Tk.put]
   clear hY1
   have hY3:∀ W,(Four g3 (fun i=>Value.int .i16 (l4 qa qb qc qd i)) W∧Four g2 Sw W)→W.rangeAt g2 0 [Sw 0,Sw 1,Sw 2,Sw 3]:=fun W hW=>zan (hW.2.1 0 (by omega)) (hW.2.1 1 (by omega)) (hW.2.1 2 (by omega)) (hW.2.1 3 (by omega))
   refine Tk.t 3 (v:=.agg #[Sw 0,Sw 1,Sw 2,Sw 3]) rfl (yieldsIf_load_mid (by rfl) _ _ rfl g2 0 rfl [Sw 0,Sw 1,Sw 2,Sw 3] _ hY3 Tryz.underlying217 rfl (by kernel_rfl)) (by assumption) ?_
   try simp only [Tk.put]
   clear hY3
   refine wpAnyH_ready (rs:=[0,2]) (by kernel_rfl) (by simp) ?_
   refine Tk.c rfl (fun K hK=>?_) ?_
   ·refine Eq.mpr (if_pos (by kernel_rfl)) ?_
    refine wp_load_mid 217 (.tmp 7) rfl g1 0 rfl [S 0,S 1,S 2,S 3] _ (zan (HF.out.1 0 (by omega)) (HF.out.1 1 (by omega)) (HF.out.1 2 (by omega)) (HF.out.1 3 (by omega))) Tryz.underlying217 rfl (by kernel_rfl) ?_
    clear hHeld
    refine hK.out _ _ ?_ (fun hHeld=>?_)
    ·exact⟨HN4.out,HWH.out⟩
    clear hK K
    try simp only [Tk.put]
    refine Tk.s 2 rfl (fun K hK=>?_)
    go_simp
    go_at_call 169
    refine (of_to qa qb qc qd HQA.out HQB.out HQC.out HQD.out _).mono ?_
    rintro e Wc1 ⟨⟨SA,rfl,hSA⟩,hb1⟩
    have HSA:=hid hSA
    clear hSA
    replace HF:=hid (HF.out.below hb1 HF.out.2.2)
    replace HZ:=hid (HZ.out.below hb1 HZ.out.2.2)
    replace HN4:=hid (HN4.out.below hb1 HN4.out.2.2)
    replace HWH:=hid (HWH.out.below hb1 HWH.out.2.2)
    replace HB:=hid (HB.out.trans (hb1.mono HB.out.size))
    clear hb1 hHeld
    dsimp only
    refine hK.out _ _ ?_ (fun hHeld=>?_)
    ·exact⟨HN4.out,HWH.out⟩
    clear hK K
    try simp only [Tk.put]
    refine Tk.s 4 rfl (fun K hK=>?_)
    go_simp
    go_at_call 172
    refine (times_to SA Sw (wh4 qa qb qc qd) (wh4 (W k 0) 0 (W k 2) (W k 1)) 131072 512 HLL.out.1 HLL.out.2.1 HLL.out.2.2 HSA.out HSW.out HPA.out HPW.out _).mono ?_
    rintro e Wc2 ⟨⟨SC,rfl,hSC⟩,hb1⟩
    have HSC:=hid hSC
    clear hSC
    replace HF:=hid (HF.out.below hb1 HF.out.2.2)
    replace HZ:=hid (HZ.out.below hb1 HZ.out.2.2)
    replace HN4:=hid (HN4.out.below hb1 HN4.out.2.2)
    replace HWH:=hid (HWH.out.below hb1 HWH.out.2.2)
    replace HB:=hid (HB.out.trans (hb1.mono HB.out.size))
    clear hb1 hHeld
    dsimp only
    refine hK.out _ _ ?_ (fun hHeld=>?_)
    ·exact⟨HN4.out,HWH.out⟩
    clear hK K
    try simp only [Tk.put]
    refine Tk.s 5 rfl (fun K hK=>?_)
    go_simp
    go_at_call 171
    refine (plus_to S SC p (fun i=>gmul (wh4 qa qb qc qd i) (wh4 (W k 0) 0 (W k 2) (W k 1) i)) (k * 134217728) 134217728 HAB.out HS.out HSC.out HT.out.bound HPM.out _).mono ?_
    rintro e Wc3 ⟨⟨SD,rfl,hSD⟩,hb1⟩
    have HSD:=hid hSD
    clear hSD
    replace HF:=hid (HF.out.below hb1 HF.out.2.2)
    replace HZ:=hid (HZ.out.below hb1 HZ.out.2.2)
    replace HN4:=hid (HN4.out.below hb1 HN4.out.2.2)
    replace HWH:=hid (HWH.out.below hb1 HWH.out.2.2)
    replace HB:=hid (HB.out.trans (hb1.mono HB.out.size))
    clear hb1 hHeld
    dsimp only
    refine hK.out _ _ ?_ (fun hHeld=>?_)
    ·exact⟨HN4.out,HWH.out⟩
    clear hK K
    try simp only [Tk.put]
    refine Tk.s 6 rfl (fun K hK=>?_)
    refine Eq.mpr (if_pos (by kernel_rfl)) ?_
    refine wp_store_mid 217 _ _ rfl g1 0 #[SD 0,SD 1,SD 2,SD 3] rfl rfl HF.out.there (by kernel_rfl) (oneC HSD.out) ?_
    change K _ (CFour.set4 g1 SD Wc3)
    replace HF:=hid (HF.out.set4 SD)
    replace HZ:=hid (HZ.out.oth4 (g':=g1) SD HNN.out.1)
    replace HWH:=hid (HWH.out.oth4 (g':=g1) SD HNN.out.2.1)
    replace HN4:=hid (HN4.out.oth4 (g':=g1) SD HNN.out.2.2)
    replace HB:=hid (zb9 HB.out HLE.out SD)
    clear hHeld
    generalize CFour.set4 g1 SD Wc3=We at HF HZ HWH HN4 HB ⊢
    refine hK.out _ _ ?_ (fun hHeld=>?_)
    ·exact⟨HN4.out,HWH.out⟩
    clear hK K
    try simp only [Act.put]
    refine wpAnyH_done (by kernel_rfl) ?_ _
    subst hg1
    go_wp2_with fail
    go_roundw
    case rel=>exact⟨k+1,SD,_,by omega,by go_num,HSD,HTN,HF,HZ,HB⟩
    case measure=>simp [intOf];omega
   refine Tk.c rfl (fun K hK=>?_) ?_
   ·go_simp
    go_at_call 169
    refine (of_to qa qb qc qd HQA.out HQB.out HQC.out HQD.out _).mono ?_
    rintro e Wc4 ⟨⟨SA,rfl,hSA⟩,hb1⟩
    have HSA:=hid hSA
    clear hSA
    replace HF:=hid (HF.out.below hb1 HF.out.2.2)
    replace HZ:=hid (HZ.out.below hb1 HZ.out.2.2)
    replace HN4:=hid (HN4.out.below hb1 HN4.out.2.2)
    replace HWH:=hid (HWH.out.below hb1 HWH.out.2.2)
    replace HB:=hid (HB.out.trans (hb1.mono HB.out.size))
    clear hb1 hHeld
    dsimp only
    refine hK.out _ _ ?_ (fun hHeld=>?_)
    ·exact⟨HN4.out,HWH.out⟩
    clear hK K
    try simp only [Tk.put]
    refine wpAnyH_ready (rs:=[0,4]) (by kernel_rfl) (by simp) ?_
    refine Tk.c rfl (fun K hK=>?_) ?_
    ·refine Eq.mpr (if_pos (by kernel_rfl)) ?_
     refine wp_load_mid 217 (.tmp 7) rfl g1 0 rfl [S 0,S 1,S 2,S 3] _ (zan (HF.out.1 0 (by omega)) (HF.out.1 1 (by omega)) (HF.out.1 2 (by omega)) (HF.out.1 3 (by omega))) Tryz.underlying217 rfl (by kernel_rfl) ?_
     clear hHeld
     refine hK.out _ _ ?_ (fun hHeld=>?_)
     ·exact⟨HN4.out,HWH.out⟩
     clear hK K
     try simp only [Tk.put]
     refine Tk.s 4 rfl (fun K hK=>?_)
     go_simp
     go_at_call 172
     refine (times_to SA Sw (wh4 qa qb qc qd) (wh4 (W k 0) 0 (W k 2) (W k 1)) 131072 512 HLL.out.1 HLL.out.2.1 HLL.out.2.2 HSA.out HSW.out HPA.out HPW.out _).mono ?_
     rintro e Wc5 ⟨⟨SC,rfl,hSC⟩,hb1⟩
     have HSC:=hid hSC
     clear hSC
     replace HF:=hid (HF.out.below hb1 HF.out.2.2)
     replace HZ:=hid (HZ.out.below hb1 HZ.out.2.2)
     replace HN4:=hid (HN4.out.below hb1 HN4.out.2.2)
     replace HWH:=hid (HWH.out.below hb1 HWH.out.2.2)
     replace HB:=hid (HB.out.trans (hb1.mono HB.out.size))
     clear hb1 hHeld
     dsimp only
     refine hK.out _ _ ?_ (fun hHeld=>?_)
     ·exact⟨HN4.out,HWH.out⟩
     clear hK K
     try simp only [Tk.put]
     refine Tk.s 5 rfl (fun K hK=>?_)
     go_simp
     go_at_call 171
     refine (plus_to S SC p (fun i=>gmul (wh4 qa qb qc qd i) (wh4 (W k 0) 0 (W k 2) (W k 1) i)) (k * 134217728) 134217728 HAB.out HS.out HSC.out HT.out.bound HPM.out _).mono ?_
     rintro e Wc6 ⟨⟨SD,rfl,hSD⟩,hb1⟩
     have HSD:=hid hSD
     clear hSD
     replace HF:=hid (HF.out.below hb1 HF.out.2.2)
     replace HZ:=hid (HZ.out.below hb1 HZ.out.2.2)
     replace HN4:=hid (HN4.out.below hb1 HN4.out.2.2)
     replace HWH:=hid (HWH.out.below hb1 HWH.out.2.2)
     replace HB:=hid (HB.out.trans (hb1.mono HB.out.size))
     clear hb1 hHeld
     dsimp only
     refine hK.out _ _ ?_ (fun hHeld=>?_)
     ·exact⟨HN4.out,HWH.out⟩
     clear hK K
     try simp only [Tk.put]
     refine Tk.s 6 rfl (fun K hK=>?_)
     refine Eq.mpr (if_pos (by kernel_rfl)) ?_
     refine wp_store_mid 217 _ _ rfl g1 0 #[SD 0,SD 1,SD 2,SD 3] rfl rfl HF.out.there (by kernel_rfl) (oneC HSD.out) ?_
     change K _ (CFour.set4 g1 SD Wc6)
     replace HF:=hid (HF.out.set4 SD)
     replace HZ:=hid (HZ.out.oth4 (g':=g1) SD HNN.out.1)
     replace HWH:=hid (HWH.out.oth4 (g':=g1) SD HNN.out.2.1)
     replace HN4:=hid (HN4.out.oth4 (g':=g1) SD HNN.out.2.2)
     replace HB:=hid (zb9 HB.out HLE.out SD)
     clear hHeld
     generalize CFour.set4 g1 SD Wc6=We at HF HZ HWH HN4 HB ⊢
     refine hK.out _ _ ?_ (fun hHeld=>?_)
     ·exact⟨HN4.out,HWH.out⟩
     clear hK K
     try simp only [Act.put]
     refine wpAnyH_done (by kernel_rfl) ?_ _
     subst hg1
     go_wp2_with fail
     go_roundw
     case rel=>exact⟨k+1,SD,_,by omega,by go_num,HSD,HTN,HF,HZ,HB⟩
     case measure=>simp [intOf];omega
    refine Tk.c rfl (fun K hK=>?_) ?_
    ·go_simp
     go_at_call 172
     refine (times_to SA Sw (wh4 qa qb qc qd) (wh4 (W k 0) 0 (W k 2) (W k 1)) 131072 512 HLL.out.1 HLL.out.2.1 HLL.out.2.2 HSA.out HSW.out HPA.out HPW.out _).mono ?_
     rintro e Wc7 ⟨⟨SC,rfl,hSC⟩,hb1⟩
     have HSC:=hid hSC
     clear hSC
     replace HF:=hid (HF.out.below hb1 HF.out.2.2)
     replace HZ:=hid (HZ.out.below hb1 HZ.out.2.2)
     replace HN4:=hid (HN4.out.below hb1 HN4.out.2.2)
     replace HWH:=hid (HWH.out.below hb1 HWH.out.2.2)
     replace HB:=hid (HB.out.trans (hb1.mono HB.out.size))
     clear hb1 hHeld
     dsimp only
     refine hK.out _ _ ?_ (fun hHeld=>?_)
     ·exact⟨HN4.out,HWH.out⟩
     clear hK K
     try simp only [Tk.put]
     refine Tk.s 0 rfl (fun K hK=>?_)
     refine Eq.mpr (if_pos (by kernel_rfl)) ?_
     refine wp_load_mid 217 (.tmp 7) rfl g1 0 rfl [S 0,S 1,S 2,S 3] _ (zan (HF.out.1 0 (by omega)) (HF.out.1 1 (by omega)) (HF.out.1 2 (by omega)) (HF.out.1 3 (by omega))) Tryz.underlying217 rfl (by kernel_rfl) ?_
     clear hHeld
     refine hK.out _ _ ?_ (fun hHeld=>?_)
     ·exact⟨HN4.out,HWH.out⟩
     clear hK K
     try simp only [Tk.put]
     refine Tk.s 5 rfl (fun K hK=>?_)
     go_simp
     go_at_call 171
     refine (plus_to S SC p (fun i=>gmul (wh4 qa qb qc qd i) (wh4 (W k 0) 0 (W k 2) (W k 1) i)) (k * 134217728) 134217728 HAB.out HS.out HSC.out HT.out.bound HPM.out _).mono ?_
     rintro e Wc8 ⟨⟨SD,rfl,hSD⟩,hb1⟩
     have HSD:=hid hSD
     clear hSD
     replace HF:=hid (HF.out.below hb1 HF.out.2.2)
     replace HZ:=hid (HZ.out.below hb1 HZ.out.2.2)
     replace HN4:=hid (HN4.out.below hb1 HN4.out.2.2)
     replace HWH:=hid (HWH.out.below hb1 HWH.out.2.2)
     replace HB:=hid (HB.out.trans (hb1.mono HB.out.size))
     clear hb1 hHeld
     dsimp only
     refine hK.out _ _ ?_ (fun hHeld=>?_)
     ·exact⟨HN4.out,HWH.out⟩
     clear hK K
     try simp only [Tk.put]
     refine Tk.s 6 rfl (fun K hK=>?_)
     refine Eq.mpr (if_pos (by kernel_rfl)) ?_
     refine wp_store_mid 217 _ _ rfl g1 0 #[SD 0,SD 1,SD 2,SD 3] rfl rfl HF.out.there (by kernel_rfl) (oneC HSD.out) ?_
     change K _ (CFour.set4 g1 SD Wc8)
     replace HF:=hid (HF.out.set4 SD)
     replace HZ:=hid (HZ.out.oth4 (g':=g1) SD HNN.out.1)
     replace HWH:=hid (HWH.out.oth4 (g':=g1) SD HNN.out.2.1)
     replace HN4:=hid (HN4.out.oth4 (g':=g1) SD HNN.out.2.2)
     replace HB:=hid (zb9 HB.out HLE.out SD)
     clear hHeld
     generalize CFour.set4 g1 SD Wc8=We at HF HZ HWH HN4 HB ⊢
     refine hK.out _ _ ?_ (fun hHeld=>?_)
     ·exact⟨HN4.out,HWH.out⟩
     clear hK K
     try simp only [Act.put]
     refine wpAnyH_done (by kernel_rfl) ?_ _
     subst hg1
     go_wp2_with fail
     go_roundw
     case rel=>exact⟨k+1,SD,_,by omega,by go_num,HSD,HTN,HF,HZ,HB⟩
     case measure=>simp [intOf];omega
    exact AllReadyH.nil
   exact AllReadyH.nil
  ·obtain rfl:k=n:=by omega
   have HR1:=hid HZ.out
   go_wp2_with (first
    | (refine wpList_load_mid rfl 217 (.tmp 7) rfl (w.heap.size+1) 0 rfl [S 0,S 1,S 2,S 3] _ (zan (HF.out.1 0 (by omega)) (HF.out.1 1 (by omega)) (HF.out.1 2 (by omega)) (HF.out.1 3 (by omega))) Tryz.underlying217 rfl (by kernel_rfl) ?_)
    | (refine wpList_store_mid rfl 217 (.tmp 6) (.tmp 33) rfl w.heap.size 0 #[S 0,S 1,S 2,S 3] rfl rfl HZ.out.there (by kernel_rfl) (oneC HS.out) ?_;change wpList _ _ _ _ _ (CFour.set4 w.heap.size S wr);have hR2:=HZ.out.set4 S;have hB2:=zb9 HB.out (g:=w.heap.size) (le_refl _) S;generalize CFour.set4 w.heap.size S wr=w5 at hR2 hB2 ⊢;have d0:=hR2.1 0 (by omega);have d1:=hR2.1 1 (by omega);have d2:=hR2.1 2 (by omega);have d3:=hR2.1 3 (by omega)))
   refine bodyPost_ret (Kit.za6 rfl _ _ w.heap.size 0 [S 0,S 1,S 2,S 3] _ rfl (zan d0 d1 d2 d3) Tryz.underlying217 rfl (by kernel_rfl)) rfl ?_
   exact⟨⟨S,p,rfl,HS.out,HT.out⟩,hB2⟩
end CWheel
end
end Go.Proofs.YtahekhpeomcfjaaGreatDoor
