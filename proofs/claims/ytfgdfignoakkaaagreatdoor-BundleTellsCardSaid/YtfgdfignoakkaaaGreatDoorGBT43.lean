/- -/
import Derived.Test.YtfgdfignoakkaaaGreatDoorGBT42
open Go.Lib (hid)
open Nat (le_refl lt_of_succ_lt lt_succ_self)
set_option linter.unusedVariables false
set_option linter.unusedSimpArgs false
set_option maxRecDepth 100000
set_option maxHeartbeats 16000000
namespace Go.Proofs.YtfgdfignoakkaaaGreatDoor
namespace CBunM
end CBunM
namespace CKind
end CKind
namespace CLeb
end CLeb
namespace COctet
end COctet
namespace CPack
end CPack
open Go Go.ChangeShapes Go.WideShapes Go.ChangeAt Go.RowKit Go.Deep
section
namespace CPkI
open LebNum CLeb COctet CKind CPack CPk CPkW CBunM CBund
theorem wneed_to (N W:Nat) (s:WS) (z:Int) (pb pj cb:Nat) (w:World) (hz : -2147483648≤z∧z≤2147483647) (hl:s.1.length≤700000000) (hN:N≤W) (hNp:N≤pb) (hc:w.cell? ⟨pb,pj,none⟩=some (.int .i32 z)) (hf:w.frozen? ⟨pb,pj,none⟩=false) (hp:¬ OW W w pb)
  (hcb:w.cell? ⟨cb,0,none⟩=some (.iface 134 (.pointer (some ⟨W,0,none⟩)))) (h:WrAt W s w) :
  Calls Tryz.prog 135 #[.pointer (some ⟨pb,pj,none⟩),.pointer (some ⟨cb,0,none⟩)] w fun e w'=>e=.returned (.tuple #[])∧WrAt W (numW s z 2147483647) w'∧Fr (OW W) N pb (fun q=>q=pj) w w':=by
 have hal:Below w.heap.size w (w.alloc (.cells #[.int .i64 z] 3)):=(Below.refl _ _).alloc (le_refl _) _
 have hlt:pb < w.heap.size:=World.block_lt_of_cell? w _ hc
 have c0:(w.alloc (.cells #[.int .i64 z] 3)).cell? ⟨w.heap.size,0,none⟩=some (.int .i64 z):=Kit.zab _ _ _ 0
 have hno:¬ OW W (w.alloc (.cells #[.int .i64 z] 3)) w.heap.size:=OW.new h hal (le_refl _)
 have CN:=hid (wnum_to N W s z 2147483647 w.heap.size 0 _ (by omega) (by omega) hN c0 hno (h.below hal))
 have wz:IntKind.i64.wrap z=z:=by simp [IntKind.wrap,IntKind.signed,IntKind.bits];omega
 have wy:IntKind.i32.wrap z=z:=by simp [IntKind.wrap,IntKind.signed,IntKind.bits];omega
 have HBB:Hid ((w.alloc (.cells #[.int .i64 z] 3)).cell? ⟨cb,0,none⟩=some (.iface 134 (.pointer (some ⟨W,0,none⟩)))):=hid ((hal.cell (p:=⟨cb,0,none⟩) (World.block_lt_of_cell? w _ hcb)).trans hcb)
 have f0:∀ J,Fr (OW W) N pb J w (w.alloc (.cells #[.int .i64 z] 3)):=fun J=>h.fr hal (by have:=h.lt;omega)
 have HF0:=hid f0
 have HNO:=hid hno
 have HP:=hid hp
 have HL:=hid hlt
 have HC:=hid (And.intro hc hf)
 have HNP:=hid hNp
 have hsz:w.heap.size < (w.alloc (.cells #[.int .i64 z] 3)).heap.size:=by simp
 have HSZ:=hid hsz
 have HC0:=hid c0
 clear h hal hlt hno hp hNp f0 hsz hcb hf c0
 go_enter Tryz.func135,Tryz.ntmps135
 go_upto_region 1 with fail
 generalize w.alloc (.cells #[.int .i64 z] 3)=W0 at CN HBB HF0 HNO HSZ HC0 ⊢
 have hb0:=HBB.out
 clear hc
 go_wp2_with (first
  | (go_at_call 211
     refine CN.out.mono ?_
     rintro e w1 ⟨rfl,h1,h2⟩
     have hm:=(h2.any (OW.self W W0) (nb:=w.heap.size) (J:=fun _=>False)).cell HSZ.out HNO.out 0 id
     have d0:w1.cell? ⟨w.heap.size,0,none⟩=some (.int .i64 z):=hm.trans HC0.out
     have fr1:∀ J,Fr (OW W) N pb J w w1:=fun J=>(HF0.out J).trans (h2.any (OW.self W W0))
     have cu:w1.cell? ⟨pb,pj,none⟩=some (.int .i32 z):=((fr1 (fun _=>False)).cell HL.out HP.out pj id).trans HC.out.1
     have fu:w1.frozen? ⟨pb,pj,none⟩=false:=((fr1 (fun _=>False)).froz HL.out HP.out pj).trans HC.out.2
     have H1:=hid h1
     have F1:=hid fr1
     clear h1 h2 hm fr1))
 go_end0
 have hno1:¬ OW W w1 pb:=(F1.out (fun _=>False)).own pb HL.out HP.out
 have hkW:(w1.setCell ⟨pb,pj,none⟩ (.int .i32 z)).heap[W]?=w1.heap[W]?:=Below.heap_setCell _ _ _ W (fun e=>hno1 (.inl (show pb=W from e.symm)))
 have hO:∀ k,¬ OW W w1 k→¬ OW W (w1.setCell ⟨pb,pj,none⟩ (.int .i32 z)) k:=fun k hk q=>hk ((OW.keep hkW k).1 q)
 exact⟨rfl,H1.out.keep fun k hk=>Below.heap_setCell _ _ _ k (fun e=>hno1 (by rw [show k=pb from e] at hk;exact hk)),(F1.out _).trans (Fr.set pj _ HNP.out rfl hO)⟩
/-! ### a block -/
abbrev BkL:=Bk × (Nat→NdL) × List Int × List Int
def blkI (s:WS) (p:BkL):WS:=nodesW (sizW s p.1.n 8).2 p.2.1 (sizN p.1.n)
def blkX (s:WS) (p:BkL):WS:=exitW (blkI s p) p.1.ex p.1.hd.nW p.1.hd.nB p.1.hd.D
def blkW (s:WS) (p:BkL):WS:=if p.1.ex=true then numW (bisW (wtsW (blkX s p) p.2.2.1) p.2.2.2) p.1.hd.D 2147483647 else blkX s p
def BkM (nb o:Nat) (vs:List Value) (w:World):Prop:=∀ j v,vs[j]?=some v→w.cell? ⟨nb,o+j,none⟩=some v∧w.frozen? ⟨nb,o+j,none⟩=false
theorem BkM.fr {O:World→Nat→Prop} {N nb o:Nat} {J:Nat→Prop} {vs:List Value} {w w':World} (h:BkM nb o vs w) (hn:nb < w.heap.size) (ho:¬ O w nb) (f:Fr O N nb J w w') (hJ:∀ q,q < vs.length→¬ J (o+q)):BkM nb o vs w':=fun j v hv =>
 ⟨(f.cell hn ho _ (hJ j (List.getElem?_eq_some_iff.1 hv).1)).trans (h j v hv).1,(f.froz hn ho _).trans (h j v hv).2⟩
structure BkP (N:Nat) (w:World) (p:BkL):Prop where
 n:p.1.n≤1000
 nodes:Kit.Rd w N p.1.A (flatE ndV p.2.1 p.1.n)
 each:NdsP N w p.1.n p.2.1
 len:p.2.2.1.length=p.1.hd.nW∧p.2.2.2.length=p.1.hd.nB
 ws:I8r p.2.2.1∧p.2.2.1.length≤1000000
 bs:I32s p.2.2.2∧p.2.2.2.length≤1000000
 rw:Kit.Rd w N p.1.hd.WA (p.2.2.1.map (.int .i8))
 rb:Kit.Rd w N p.1.hd.BA (p.2.2.2.map (.int .i32))
 D : -2147483648≤p.1.hd.D∧p.1.hd.D≤2147483647
theorem NdsP.below {N n:Nat} {w w':World} {P:Nat→NdL} (h:NdsP N w n P) (hb:Below N w w'):NdsP N w' n P:=⟨h.len,h.bd,h.ws,h.bs,fun j hj=>(h.rw j hj).below hb,fun j hj=>(h.rb j hj).below hb⟩
theorem BkP.below {N:Nat} {w w':World} {p:BkL} (h:BkP N w p) (hb:Below N w w'):BkP N w' p:=⟨h.n,h.nodes.below hb,h.each.below hb,h.len,h.ws,h.bs,h.rw.below hb,h.rb.below hb,h.D⟩
theorem rw_low {N W nb:Nat} {s:WS} {w:World} {A:Option Addr} {xs:List Value} (hr:Kit.Rd w N A xs) (hN:N≤w.heap.size) (hNW:N≤W) (hNb:N≤nb) (h:WrAt W s w):Rw PT (OW W) nb w A xs :=
 ⟨hr.more hN,fun hx ad hA=>⟨by have:=rd_lt hr hx hA;omega,fun q=>by have:=ow_ge h q;have:=rd_lt hr hx hA;omega⟩,fun _ _ _=>trivial⟩
theorem exitW_len {s:WS} {ex:Bool} {nW nB:Nat} {D:Int} : (exitW s ex nW nB D).1.length≤s.1.length+10:=by
 unfold exitW
 refine Nat.le_trans (zbt (by decide)) ?_
 split
 ·exact le_refl _
 ·split
  ·exact le_refl _
  ·exact le_refl _
def J5 (o q:Nat):Prop:=o≤q∧q < o+5
theorem wblock_to (N W L nb o:Nat) (s:WS) (p:BkL) (w:World) (hM:1 < N) (hT:zad w) (hNW:N≤W) (hN:N≤w.heap.size) (hNb:N≤nb) (hL:L≤300000000) (hl:s.1.length≤L) (hP:BkP N w p) (hB:BkM nb o p.1.val w) (hlt:nb < w.heap.size) (ho:¬ OW W w nb) (h:WrAt W s w) :
  Calls Tryz.prog 73 #[.iface 134 (.pointer (some ⟨W,0,none⟩)),.pointer (some ⟨nb,o,none⟩)] w fun e w'=>e=.returned (.tuple #[])∧WrAt W (blkW s p) w'∧(blkW s p).1.length≤L+41000000∧Fr (OW W) N nb (J5 o) w w':=by
 obtain⟨⟨A,n,c,X,ex,⟨WA,nW,cW,BA,nB,cB,D⟩⟩,P,ws,bs⟩:=p
 have hPn:=hP.n
 have hPD:=hP.D
 have hPl:=hP.len
 dsimp only at hPn hPD hPl
 have CI:=hid (witemsN_to N W L s A n c hPn P w hM hT hNW hN (by omega) hl hP.nodes hP.each h)
 have c0:w.cell? ⟨nb,o,none⟩=some (.slice A n c):=(hB 0 _ rfl).1
 have HB:=hid hB
 have HP:=hid hP
 have HLT:=hid hlt
 have HO:=hid ho
 have HN:=hid (And.intro hN hNW)
 have HNB:=hid hNb
 have HL:=hid hL
 have HPL:=hid hPl
 have HPD:=hid hPD
 obtain⟨s1,hs1⟩:∃ s1,nodesW (sizW s n 8).2 P (sizN n)=s1:=⟨_,rfl⟩
 obtain⟨s2,hs2⟩:∃ s2,exitW s1 ex nW nB D=s2:=⟨_,rfl⟩
 obtain⟨s3,hs3⟩:∃ s3,wtsW s2 ws=s3:=⟨_,rfl⟩
 obtain⟨s4,hs4⟩:∃ s4,bisW s3 bs=s4:=⟨_,rfl⟩
 obtain⟨s5,hs5⟩:∃ s5,numW s4 D 2147483647=s5:=⟨_,rfl⟩
 have hW:blkW s (⟨A,n,c,X,ex,⟨WA,nW,cW,BA,nB,cB,D⟩⟩,P,ws,bs)=if ex=true then s5 else s2:=by
  unfold blkW blkX blkI
  dsimp only
  rw [hs1,hs2,hs3,hs4,hs5]
 have HE2:=hid hs2
 have HE3:=hid hs3
 have HE4:=hid hs4
 have HE5:=hid hs5
 rw [hW]
 rw [hs1] at CI
 clear hM hT hNW hN hNb hL hl hP hB hlt ho h hW hs1 hs2 hs3 hs4 hs5 hPl
 unfold ItemsN at CI
 go_enter Tryz.func73,Tryz.ntmps73
 go_upto_region 1 with (first
  | (go_at_call 101
     refine CI.out.mono ?_
     rintro e w1 ⟨A1,c1,rfl,h1,h2,h3⟩
     have H1:=hid h1
     have HS1:=hid h2
     have F1:=hid h3
     have d0:w1.cell? ⟨nb,o,none⟩=some (.slice A n c):=((h3 nb (fun _=>False)).cell HLT.out HO.out o id).trans c0
     have e0:w1.frozen? ⟨nb,o,none⟩=false:=((h3 nb (fun _=>False)).froz HLT.out HO.out o).trans (HB.out 0 _ rfl).2
     clear h1 h2 h3 c0))
 have ho1:¬ OW W w1 nb:=(F1.out nb (fun _=>False)).own nb HLT.out HO.out
 have hlt1:nb < w1.heap.size:=Nat.lt_of_lt_of_le HLT.out (F1.out nb (fun _=>False)).size
 generalize hv:(Value.slice A1 (sizN n) c1)=v1
 generalize hw2:w1.setCell ⟨nb,o,none⟩ v1=w2
 have hkW:(w1.setCell ⟨nb,o,none⟩ v1).heap[W]?=w1.heap[W]?:=Below.heap_setCell _ _ _ W (fun e=>ho1 (.inl (show nb=W from e.symm)))
 have hO:∀ k,¬ OW W w1 k→¬ OW W (w1.setCell ⟨nb,o,none⟩ v1) k:=fun k hk q=>hk ((OW.keep hkW k).1 q)
 have h2:WrAt W s1 w2:=by rw [← hw2];exact H1.out.keep fun k hk=>Below.heap_setCell _ _ _ k (fun e=>ho1 (by rw [show k=nb from e] at hk;exact hk))
 have f2:Fr (OW W) N nb (J5 o) w w2:=by rw [← hw2];exact (F1.out nb _).trans (Fr.set o _ HNB.out ⟨le_refl _,by omega⟩ hO)
 have hB1:BkM nb o [.slice A n c,.bool ex,.slice WA nW cW,.slice BA nB cB,.int .i32 D] w1:=HB.out.fr HLT.out HO.out (F1.out nb (fun _=>False)) (fun q _ h=>h)
 have hB2:BkM nb o [v1,.bool ex,.slice WA nW cW,.slice BA nB cB,.int .i32 D] w2:=by
  rw [← hw2]
  intro j v hj
  rcases Nat.eq_zero_or_pos j with rfl | hj0
  ·simp at hj
   subst hj
   exact⟨World.cell?_setCell_same' _ _ _ (by rw [show w1.cell? ⟨nb,o,none⟩=_ from d0];rfl),(World.frozen?_setCell _ _ _ _).trans e0⟩
  ·have:=hB1 j v (by
    rw [← hj]
    cases j with
    | zero=>omega
    | succ j=>rfl)
   exact⟨(World.cell?_setCell_other _ _ _ _ (fun hh=>by injection hh with q1 q2;omega)).trans this.1,(World.frozen?_setCell _ _ _ _).trans this.2⟩
 have H2:=hid h2
 have F2:=hid f2
 have HB2:=hid hB2
 have HO2:Hid (¬ OW W w2 nb):=hid (f2.own nb HLT.out HO.out)
 have HLT2:Hid (nb < w2.heap.size):=hid (Nat.lt_of_lt_of_le HLT.out f2.size)
 have HSL:Hid (s1.1.length≤L+40000000):=HS1
 have HL3:=HL.out
 clear hv hw2 hkW hO h2 f2 hB1 hB2 ho1 hlt1 d0 e0 H1 F1 HS1 CI
 -- THE REST
 have CX:=hid (wexit_to N W s1 nb o v1 ex WA nW cW BA nB cB D w2 (by have:=HSL.out;omega) HN.out.2 (fun j v hj=>(HB2.out j v hj).1) H2.out)
 have HS2:Hid (s2.1.length≤L+40000010):=hid (by rw [← HE2.out];have h1:=exitW_len (s:=s1) (ex:=ex) (nW:=nW) (nB:=nB) (D:=D);have:=HSL.out;omega)
 rw [HE2.out] at CX
 have b1:=(HB2.out 1 _ rfl).1
 unfold GoesW at CX
 go_upto_region 2 with (first
  | (go_at_call 209
     refine CX.out.mono ?_
     rintro e w3 ⟨rfl,h1,h2⟩
     have Gw3:=hid (fun J=>h2.any (OW.self W w2) (nb:=nb) (J:=J))
     have F3:=hid (F2.out.trans (Gw3.out (J5 o)))
     have Hw3:=hid h1
     have b1':w3.cell? ⟨nb,o+1,none⟩=some (.bool ex):=((Gw3.out (fun _=>False)).cell HLT2.out HO2.out (o+1) id).trans b1
     clear h1 h2 b1))
 cases ex with
 | false =>
   go_wp2_with fail
   go_end0
   exact⟨rfl,Hw3.out,by have:=HS2.out;omega,F3.out⟩
 | true =>
   go_upto_region 3 with fail
   clear b1'
   refine wp_region_held_drew (S:=fun _=>True) (by kernel_rfl) trivial (fun hHeld=>?_)
   have hd:Below w3.heap.size w3 w3.drew:=(Below.refl _ _).drew
   have Hx3:=hid (Hw3.out.below hd)
   have Gx3:=hid (fun J=>(Gw3.out J).trans (Hw3.out.fr (N:=N) (nb:=nb) (J:=J) hd (by have:=Hw3.out.lt;have:=HN.out.1;have:=F2.out.size;have:=(Gw3.out (fun _=>False)).size;omega)))
   generalize w3.drew=x3 at hHeld Hx3 Gx3 ⊢
   clear hd
   refine Tk.x 0 rfl ?_
   try simp only [Tk.put]
   refine Tk.x 1 rfl ?_
   try simp only [Tk.put]
   refine Tk.x 2 rfl ?_
   try simp only [Tk.put]
   refine Tk.x 3 rfl ?_
   try simp only [Tk.put]
   refine Tk.x 4 rfl ?_
   try simp only [Tk.put]
   refine Tk.y 5 (v := .func (.method "stepwell/pack.weights") #[.iface 134 (.pointer (some ⟨W, 0, none⟩))] #[]) rfl ?_ ?_
   ·intro wS hSw
    first | (go_simp;done) | (go_simp;with_reducible rfl) | kernel_rfl
   try simp only [Tk.put]
   refine Tk.y 6 (v := .func (.method "stepwell/pack.weights") #[.iface 134 (.pointer (some ⟨W, 0, none⟩))] #[]) rfl ?_ ?_
   ·intro wS hSw
    first | (go_simp;done) | (go_simp;with_reducible rfl) | kernel_rfl
   try simp only [Tk.put]
   refine Tk.x 7 rfl ?_
   try simp only [Tk.put]
   refine Tk.s 8 rfl (fun Kq hK=>?_)
   go_simp
   rw [mth_weights]
   go_simp
   go_at_call 213
   refine (wwts_to N W s2 ws WA nW cW nb (o+2) HPL.out.1 HP.out.ws.1 x3 (by have:=HS2.out;omega) (by have h9:=HP.out.ws.2;have h8:=HPL.out.1;dsimp only at h9;omega) HN.out.2 (rw_low (nb:=W) ((HP.out.rw).below ((F2.out.trans (Gx3.out (J5 o))).below)) (Nat.le_trans HN.out.1 (F2.out.trans (Gx3.out (J5 o))).size) HN.out.2 HN.out.2 Hx3.out) (((Gx3.out (fun _=>False)).cell HLT2.out HO2.out (o+2) id).trans (HB2.out 2 _ rfl).1) Hx3.out).mono ?_
   rintro e w4 ⟨rfl,h1,h2⟩
   rw [HE3.out] at h1
   have Hw4:=hid h1
   have Gw4:=hid (fun J=>(Gx3.out J).trans (h2.any (OW.self W x3) (nb:=nb) (J:=J)))
   have HS3:Hid (s3.1.length≤L+40200010):=hid (by rw [← HE3.out];have q1:=wtsW_len (s:=s2) HP.out.ws.2;have:=HS2.out;exact Nat.le_trans q1 (by omega))
   clear h1 h2
   clear hHeld
   refine hK.out _ _ trivial (fun hHeld=>?_)
   clear hK Kq
   try simp only [Tk.put]
   refine wpAnyH_done (by kernel_rfl) ?_ _
   clear hHeld
   go_upto_region 4 with fail
   refine wp_region_held_drew (S:=fun _=>True) (by kernel_rfl) trivial (fun hHeld=>?_)
   have hd:Below w4.heap.size w4 w4.drew:=(Below.refl _ _).drew
   have Hx4:=hid (Hw4.out.below hd)
   have Gx4:=hid (fun J=>(Gw4.out J).trans (Hw4.out.fr (N:=N) (nb:=nb) (J:=J) hd (by have:=Hw4.out.lt;have:=HN.out.1;have:=F2.out.size;have:=(Gw4.out (fun _=>False)).size;omega)))
   generalize w4.drew=x4 at hHeld Hx4 Gx4 ⊢
   clear hd
   refine Tk.x 0 rfl ?_
   try simp only [Tk.put]
   refine Tk.x 1 rfl ?_
   try simp only [Tk.put]
   refine Tk.x 2 rfl ?_
   try simp only [Tk.put]
   refine Tk.x 3 rfl ?_
   try simp only [Tk.put]
   refine Tk.x 4 rfl ?_
   try simp only [Tk.put]
   refine Tk.y 5 (v := .func (.method "stepwell/pack.biases") #[.iface 134 (.pointer (some ⟨W, 0, none⟩))] #[]) rfl ?_ ?_
   ·intro wS hSw
    first | (go_simp;done) | (go_simp;with_reducible rfl) | kernel_rfl
   try simp only [Tk.put]
   refine Tk.y 6 (v := .func (.method "stepwell/pack.biases") #[.iface 134 (.pointer (some ⟨W, 0, none⟩))] #[]) rfl ?_ ?_
   ·intro wS hSw
    first | (go_simp;done) | (go_simp;with_reducible rfl) | kernel_rfl
   try simp only [Tk.put]
   refine Tk.x 7 rfl ?_
   try simp only [Tk.put]
   refine Tk.s 8 rfl (fun Kq hK=>?_)
   go_simp
   rw [mth_biases]
   go_simp
   go_at_call 208
   refine (wbis_to N W s3 bs BA nB cB nb (o+3) HPL.out.2 HP.out.bs.1 x4 (by have:=HS3.out;omega) (by have h9:=HP.out.bs.2;have h8:=HPL.out.2;dsimp only at h9;omega) HN.out.2 (rw_low (nb:=W) ((HP.out.rb).below ((F2.out.trans (Gx4.out (J5 o))).below)) (Nat.le_trans HN.out.1 (F2.out.trans (Gx4.out (J5 o))).size) HN.out.2 HN.out.2 Hx4.out) (((Gx4.out (fun _=>False)).cell HLT2.out HO2.out (o+3) id).trans (HB2.out 3 _ rfl).1) Hx4.out).mono ?_
   rintro e w5 ⟨rfl,h1,h2⟩
   rw [HE4.out] at h1
   have Hw5:=hid h1
   have Gw5:=hid (fun J=>(Gx4.out J).trans (h2.any (OW.self W x4) (nb:=nb) (J:=J)))
   have HS4:Hid (s4.1.length≤L+40400010):=hid (by rw [← HE4.out];have q1:=bisW_len (s:=s3) HP.out.bs.1 HP.out.bs.2;have:=HS3.out;exact Nat.le_trans q1 (by omega))
   clear h1 h2
   clear hHeld
   refine hK.out _ _ trivial (fun hHeld=>?_)
   clear hK Kq
   try simp only [Tk.put]
   refine wpAnyH_done (by kernel_rfl) ?_ _
   clear hHeld
   go_upto_region 5 with fail
   refine wp_region_held_drew (S:=fun _=>True) (by kernel_rfl) trivial (fun hHeld=>?_)
   have hd:Below w5.heap.size w5 w5.drew:=(Below.refl _ _).drew
   have Hx5:=hid (Hw5.out.below hd)
   have Gx5:=hid (fun J=>(Gw5.out J).trans (Hw5.out.fr (N:=N) (nb:=nb) (J:=J) hd (by have:=Hw5.out.lt;have:=HN.out.1;have:=F2.out.size;have:=(Gw5.out (fun _=>False)).size;omega)))
   generalize w5.drew=x5 at hHeld Hx5 Gx5 ⊢
   clear hd
   refine Tk.x 0 rfl ?_
   try simp only [Tk.put]
   refine Tk.x 2 rfl ?_
   try simp only [Tk.put]
   refine Tk.x 3 rfl ?_
   try simp only [Tk.put]
   refine Tk.x 4 rfl ?_
   try simp only [Tk.put]
   refine Tk.x 5 rfl ?_
   try simp only [Tk.put]
   refine Tk.s 1 rfl (fun Kq hK=>?_)
   go_simp
   go_at_call 102
   refine (wide_to (.iface 134 (.pointer (some ⟨W,0,none⟩))) x5 rfl).mono ?_
   rintro e wv ⟨rfl,hwv⟩
   have hal:Below x5.heap.size x5 wv:=by rw [hwv];exact (Below.refl _ _).alloc (le_refl _) _
   have HBV:Hid (wv.cell? ⟨x5.heap.size,0,none⟩=some (.iface 134 (.pointer (some ⟨W,0,none⟩)))):=hid (by rw [hwv];exact Kit.zab _ _ _ 0)
   have Hwv:=hid (Hx5.out.below hal)
   have Gwv:=hid (fun J=>(Gx5.out J).trans (Hx5.out.fr (N:=N) (nb:=nb) (J:=J) hal (by have:=Hx5.out.lt;have:=HN.out.2;omega)))
   clear hal hwv
   generalize x5.heap.size=bv at HBV ⊢
   clear hHeld
   refine hK.out _ _ trivial (fun hHeld=>?_)
   clear hK Kq
   try simp only [Tk.put]
   refine Tk.s 6 rfl (fun Kq hK=>?_)
   go_simp
   go_at_call 135
   refine (wneed_to N W s4 D nb (o+4) bv wv HPD.out (by have:=HS4.out;omega) HN.out.2 HNB.out (((Gwv.out (fun _=>False)).cell HLT2.out HO2.out (o+4) id).trans (HB2.out 4 _ rfl).1) (((Gwv.out (fun _=>False)).froz HLT2.out HO2.out (o+4)).trans (HB2.out 4 _ rfl).2) ((Gwv.out (fun _=>False)).own nb HLT2.out HO2.out) HBV.out Hwv.out).mono ?_
   rintro e w6 ⟨rfl,h1,h2⟩
   rw [HE5.out] at h1
   have Hw6:=hid h1
   have F6:=hid ((F2.out.trans (Gwv.out (J5 o))).trans (h2.mono fun q e=>by subst e;exact⟨by omega,by omega⟩))
   clear h1 h2
   clear hHeld
   refine hK.out _ _ trivial (fun hHeld=>?_)
   clear hK Kq
   try simp only [Tk.put]
   refine wpAnyH_done (by kernel_rfl) ?_ _
   clear hHeld
   go_wp2_with fail
   go_end0
   exact⟨rfl,Hw6.out,by rw [← HE5.out];have q1:=zbt (s:=s4) (v:=D) (most:=2147483647) (by decide);have:=HS4.out;omega,F6.out⟩
end CPkI
end
end Go.Proofs.YtfgdfignoakkaaaGreatDoor
