/- -/
import Derived.Test.YtfgdfignoakkaaaGreatDoorGBT40
import Derived.Test.YtfgdfignoakkaaaGreatDoorGBT41
open Go.Lib (hid)
open Nat (le_refl lt_of_succ_lt lt_succ_self)
set_option linter.unusedVariables false
set_option linter.unusedSimpArgs false
set_option maxRecDepth 100000
set_option maxHeartbeats 16000000
namespace Go.Proofs.YtfgdfignoakkaaaGreatDoor
namespace CBunM
end CBunM
namespace CConv
end CConv
namespace CCost
end CCost
namespace CFix
end CFix
namespace CGraph
end CGraph
namespace CGuard
end CGuard
namespace CJoin
end CJoin
namespace CKind
end CKind
namespace CLeb
end CLeb
namespace COctet
end COctet
namespace CPack
end CPack
namespace CSat
end CSat
namespace CShape
end CShape
namespace CSpan
end CSpan
namespace CTensor
end CTensor
open Go Go.ChangeShapes Go.WideShapes Go.ChangeAt Go.RowKit Go.Deep
section
namespace CPkI
open LebNum CLeb COctet CKind CPack CPk CPkW CBunM
abbrev NdL:=Nd × List Int × List Int
def nodesW (s:WS) (P:Nat→NdL):Nat→WS
 | 0=>s
 | k+1=>(nodeF (nodesW s P k,P k)).1
theorem ow_ge {W:Nat} {s:WS} {w:World} (h:WrAt W s w) {k:Nat} (hk:OW W w k):W≤k:=by
 obtain⟨v,c0, -, -, -,ho⟩:=h
 rcases wr_own c0 hk with e | e
 ·omega
 ·exact Nat.le_trans (Nat.le_succ _) (Kit.zam ho _ e)
theorem nm_keepJ {P:Nat→Prop} {O:World→Nat→Prop} {N nb o:Nat} {J:Nat→Prop} {x:Nd} {ws bs:List Int} {w w':World} (h:NM P O nb o x ws bs w) (hn:nb < w.heap.size) (ho:¬ O w nb) (f:Fr O N nb J w w') (hJ:∀ q,q < 19→¬ J (o+q)):NM P O nb o x ws bs w':=by
 obtain⟨WA,cW,BA,cB,h1,h2,h3⟩:=h
 refine⟨WA,cW,BA,cB,fun j v hv=>?_,h2.fr f,h3.fr f⟩
 have hj:j < 19:=(List.getElem?_eq_some_iff.1 hv).1
 exact⟨(f.cell hn ho _ (hJ j hj)).trans (h1 j v hv).1,(f.froz hn ho _).trans (h1 j v hv).2⟩
theorem fr_row {W N nb:Nat} {s:WS} {w w':World} (h:WrAt W s w) (hg:w.grownBy w' (some nb)) (hN:N≤nb) (hlt:nb < w.heap.size) (ho:¬ OW W w nb) (hf:∀ i,w'.frozen? ⟨nb,i,none⟩=w.frozen? ⟨nb,i,none⟩):Fr (OW W) N nb (fun _=>True) w w'∧WrAt W s w':=by
 have hW:w'.heap[W]?=w.heap[W]?:=hg.block W h.lt (fun e=>ho (.inl (Option.some.inj e).symm))
 exact⟨⟨⟨hg.os,hg.tape,hg.output,hg.size,fun k hk=>hg.block k (by omega) (fun e=>by have:=Option.some.inj e;omega)⟩,fun k hk h1 _=>hg.block k hk (fun e=>h1 (Option.some.inj e)),fun k _ h1 h2=>h1 ((OW.keep hW k).1 h2),fun _ _ i hi=>(hi trivial).elim,fun _ _ i=>hf i⟩,h.keep fun k hk=>hg.block k (h.own_lt hk) (fun e=>ho (Option.some.inj e ▸ hk))⟩
structure NdsP (N:Nat) (w:World) (n:Nat) (P:Nat→NdL):Prop where
 len:∀ j,j < n→(P j).2.1.length=(P j).1.nW∧(P j).2.2.length=(P j).1.nB
 bd:∀ j,j < n→NBd (P j).1
 ws:∀ j,j < n→I8r (P j).2.1∧(P j).2.1.length≤1000000
 bs:∀ j,j < n→I32s (P j).2.2∧(P j).2.2.length≤1000000
 rw:∀ j,j < n→Kit.Rd w N (P j).1.WA ((P j).2.1.map (.int .i8))
 rb:∀ j,j < n→Kit.Rd w N (P j).1.BA ((P j).2.2.map (.int .i32))
def ndV (x:NdL):List Value:=x.1.val.toList
theorem frozen_row {w:World} {base nb n c:Nat} {e:TypeId} {size:Nat} {xs:List Value} (h:w.ownsRow base e size (.slice (some ⟨nb,0,none⟩) n c) n xs) (i:Nat):w.frozen? ⟨nb,i,none⟩=false:=by
 rcases h.2 with ⟨h1,_⟩ | ⟨g,cap,cur,h1,_,hg,_⟩
 ·cases h1
 ·simp only [Value.slice.injEq,Option.some.injEq,Addr.mk.injEq] at h1
  obtain⟨⟨rfl,_⟩,_⟩:=h1
  simp [World.frozen?,hg]
theorem row_nm {N W nb n:Nat} {s:WS} {w0 w:World} {P:Nat→NdL} (hp:NdsP N w0 n P) (hb:Below N w0 w) (hN:N≤w.heap.size) (hNW:N≤W) (hNb:N≤nb) (h:WrAt W s w) {e:TypeId} {base:Nat} (ho:w.ownsRow base e 19 (.slice (some ⟨nb,0,none⟩) n n) n (flatE ndV P n)) {j:Nat} (hj:j < n):NM PT (OW W) nb (j * 19) (P j).1 (P j).2.1 (P j).2.2 w:=by
 obtain⟨b,o,e1,_,_,hr,hf⟩:=(za9.of_rdx (s:=19) (val:=ndV) (fun _=>rfl) (by decide) (RdX.of_own ho)) j hj
 simp only [Option.some.injEq,Addr.mk.injEq] at e1
 obtain⟨rfl,rfl,_⟩:=e1
 have hl:=hp.len j hj
 have rw_:∀ {A:Option Addr} {xs:List Value},Kit.Rd w0 N A xs→Rw PT (OW W) nb w A xs:=fun hr=>⟨(hr.below hb).more hN,fun hx ad hA=>⟨by have:=rd_lt hr hx hA;omega,fun q=>by have:=ow_ge h q;have:=rd_lt hr hx hA;omega⟩,fun _ _ _=>trivial⟩
 refine⟨(P j).1.WA,(P j).1.cW,(P j).1.BA,(P j).1.cB,?_,rw_ (hp.rw j hj),rw_ (hp.rb j hj)⟩
 rw [lay_self (P j).1 hl.1 hl.2]
 intro q v hq
 have h1:=hr q v hq
 have h2:=hf rfl q (List.getElem?_eq_some_iff.1 hq).1
 rw [Nat.zero_add] at h1 h2
 exact⟨h1,h2⟩
def sizN (n:Nat):Nat:=if 8 < n then 0 else n
theorem siz_n (s:WS) (n:Nat):(sizW s n 8).1=(sizN n:Int):=by
 unfold sizW sizN
 by_cases h:8 < n
 ·rw [if_pos h,if_pos (by omega)];rfl
 ·rw [if_neg h,if_neg (by omega)]
theorem sizW_len {s:WS} {n most:Int} (hm:most≤9223372036854775807):(sizW s n most).2.1.length≤s.1.length+10:=by
 unfold sizW
 split
 ·unfold failW;simp
 ·exact zbt hm
theorem ninfo:(Tryz.prog.info? 54).map (fun i=>(i.zero,i.size,i.bytes))=some (some (.agg #[.int .i64 0,.int .i64 0,.int .i64 0,.int .i64 0,.int .i64 0,.int .i64 0,.int .i64 0,.int .i8 0,.int .i8 0,.slice none 0 0,.slice none 0 0,.int .i32 0,.int .i64 0,.int .i8 0,.int .i32 0,.int .i64 0,.int .i8 0,.int .i8 0,.int .i8 0]),19,168):=by kernel_rfl
def ItemsN (N W L n:Nat) (t:WS) (w:World) (e:Ending) (w':World):Prop :=
 ∃ A c,e=.returned (.slice A n c)∧WrAt W t w'∧t.1.length≤L∧∀ nb J,Fr (OW W) N nb J w w'
theorem witemsN_to (N W L:Nat) (s:WS) (A:Option Addr) (n c:Nat) (hn:n≤1000) (P:Nat→NdL) (w:World) (hM:1 < N) (hT:zad w) (hNW:N≤W) (hN:N≤w.heap.size) (hL:L≤400000000) (hl:s.1.length≤L) (hA:Kit.Rd w N A (flatE ndV P n)) (hP:NdsP N w n P) (h:WrAt W s w) :
  Calls Tryz.prog 101 #[.iface 134 (.pointer (some ⟨W, 0, none⟩)), .slice A n c, .int .i64 8, .func (.methodOf 137 "stepwell/pack.node") #[] #[]] w (ItemsN N W (L + 40000000) (sizN n) (nodesW (sizW s n 8).2 P (sizN n)) w) := by
 obtain⟨m,hm⟩:∃ m,sizN n=m:=⟨_,rfl⟩
 have hm8:m≤8∧m≤n:=by rw [← hm];unfold sizN;split <;> omega
 obtain⟨s1,hs1⟩:∃ s1,(sizW s n 8).2=s1:=⟨_,rfl⟩
 have hl1:s1.1.length≤L+10:=by rw [← hs1];have:=sizW_len (s:=s) (n:=n) (most:=8) (by decide);omega
 have CS:=hid (wsize_to N W s n 8 w (by omega) (by omega) hNW h)
 rw [siz_n,hm,hs1] at CS
 rw [hm,hs1]
 have HA:Hid (Kit.Rd w N A (flatE ndV P m)):=hid (by
  have hx:=RdX.of_rd hA
  intro j u hu
  have h1:=flatE_of (s:=19) (val:=ndV) (fun _=>rfl) (by decide) P hu
  refine hA j u ?_
  have h2:=flatE_get (s:=19) (val:=ndV) (fun _=>rfl) P (n:=n) (show j / 19 < n by omega) (Nat.mod_lt j (show 0 < 19 by decide))
  rw [Nat.mul_comm,Nat.div_add_mod] at h2
  exact h2.trans h1.2)
 have HPm:Hid (NdsP N w m P):=hid ⟨fun j hj=>hP.len j (by omega),fun j hj=>hP.bd j (by omega),fun j hj=>hP.ws j (by omega),fun j hj=>hP.bs j (by omega),fun j hj=>hP.rw j (by omega),fun j hj=>hP.rb j (by omega)⟩
 have HW0:=hid h
 have HL:=hid (And.intro hL hl1)
 have HN:=hid (And.intro hN hNW)
 have HT:=hid hT
 have HM:=hid hM
 have HFL:=hid (flatE_len (s:=19) (val:=ndV) (fun _=>rfl) P m)
 have H1:Hid (∀ v∈flatE ndV P m,v.oneCell'=true):=hid (flatE_mem (fun a u hu=>nd_ones a.1 u hu) P m)
 obtain⟨i0,hi0,hi1,hi2,hi3⟩:=kparts ninfo
 have HSZ:Hid ((Tryz.prog.info? 54).map (·.size)=some 19):=hid info_node
 clear hm hs1 hl1 hA hP h hL hl hN hNW hT hM
 go_enter Tryz.func101,Tryz.ntmps101
 go_upto_region 2 with (first
  | (go_at_call 212
     refine CS.out.mono ?_
     rintro e w1 ⟨rfl,h1,h2⟩
     have HW1:=hid h1
     have HF1:=hid h2
     clear h1 h2)
  | (refine wpList_make_full _ rfl (.tmp 15) (.tmp 15) _ rfl w1.heap.size 54 i0 _ 19 Tryz.underlying47 hi0 hi1 hi2 .i64 .i64 _ _ m rfl rfl rfl rfl (by rw [hi3];omega) (by unfold maxLen;omega) (le_refl _) ?_
     intro w2 hown hg
     have HO2:=hid hown
     have HG2:=hid hg
     clear hown hg))
 have g2:w1.heap.size < w2.heap.size:=by
  rcases HO2.out.2 with ⟨h1,_⟩ | ⟨g,cap,cur,h1,_,hg,_⟩
  ·cases h1
  ·simp only [Value.slice.injEq,Option.some.injEq,Addr.mk.injEq] at h1
   obtain⟨⟨rfl,_⟩,_⟩:=h1
   exact (Array.getElem?_eq_some_iff.1 hg).1
 have b12:Below w1.heap.size w1 w2:=⟨HG2.out.os,HG2.out.tape,HG2.out.output,HG2.out.size,fun k hk=>HG2.out.block k hk (by simp)⟩
 have HW2:=hid (HW1.out.below b12)
 have HB12:=hid b12
 have HG:=hid g2
 have hwN:N≤w1.heap.size:=Nat.le_trans HN.out.1 HF1.out.size
 have HWN:=hid hwN
 have HNO:=hid (OW.new HW1.out b12 (le_refl w1.heap.size))
 have HA2:Hid (Kit.Rd w2 N A (flatE ndV P m)):=hid ((HA.out.below HF1.out.below).below (b12.mono hwN))
 obtain⟨nb,hnb⟩:∃ nb,w1.heap.size=nb:=⟨_,rfl⟩
 have HNB:=hid hnb
 rw [hnb] at HO2 HG HNO ⊢
 clear g2 b12 hwN hnb HG2
 go_upto_region 3 with (first
  | (refine wpList_copy_into rfl (.tmp 17) (.tmp 18) _ _ rfl 54 Tryz.underlying47 19 HSZ.out nb m A n c rfl rfl _ _ HO2.out (flatE ndV P m) HFL.out hm8.2 HA2.out H1.out ?_
     intro w3 hown hg
     have HO3:=hid hown
     have HG3:=hid hg
     clear hown hg))
 have hf3:∀ i,w3.frozen? ⟨nb,i,none⟩=w2.frozen? ⟨nb,i,none⟩:=fun i=>(frozen_row HO3.out i).trans (frozen_row HO2.out i).symm
 have hNnb:N≤nb:=by have:=HWN.out;have:=HNB.out;omega
 obtain⟨f23,hw3⟩:=fr_row (N:=N) HW2.out HG3.out hNnb HG.out HNO.out hf3
 have hb3:Below N w w3:=(HF1.out.below.trans (HB12.out.mono HWN.out)).trans f23.below
 have HNM:Hid (∀ j,j < m→NM PT (OW W) nb (j * 19) (P j).1 (P j).2.1 (P j).2.2 w3):=hid (fun j hj=>row_nm HPm.out hb3 (Nat.le_trans (Nat.le_trans HN.out.1 HF1.out.size) (Nat.le_trans HB12.out.size f23.size)) HN.out.2 hNnb hw3 HO3.out hj)
 -- what a caller sees of it
 have HFW:Hid (∀ wr,Fr (OW W) N nb (fun _=>True) w3 wr→∀ q J,Fr (OW W) N q J w wr):=hid (fun wr h q J=>(HF1.out.any (OW.self W w)).trans (Fr.new HB12.out (OW.stay HW1.out HB12.out) HWN.out (by rw [HNB.out];exact le_refl _) (f23.trans h)))
 have HW3:=hid hw3
 have HT3:=hid (HT.out.below hb3 HM.out)
 have HNO3:Hid (¬ OW W w3 nb):=hid (f23.own nb HG.out HNO.out)
 have HLT3:Hid (nb < w3.heap.size):=hid (Nat.lt_of_lt_of_le HG.out f23.size)
 have HNN:=hid hNnb
 obtain⟨hL,hl1⟩:=HL.out
 clear hf3 hNnb f23 hw3 hb3 HO2 HO3 HG3 HA2 HFL H1 HSZ HW2 HG HNO HB12 HW1 HF1 CS
 go_wp2_with fail
 go_loopw [22] (fun v wr=>∃ i:Nat,i≤m∧v=.int .i64 i∧Hid (WrAt W (nodesW s1 P i) wr∧(nodesW s1 P i).1.length≤L+10+i * 4000000)∧Hid (∀ j,j < m→NM PT (OW W) nb (j * 19) (P j).1 (P j).2.1 (P j).2.2 wr)∧Hid (Fr (OW W) N nb (fun _=>True) w3 wr)) (fun v _=>m - (intOf v).toNat)
 case atStart=>exact⟨0,Nat.zero_le _,rfl,hid ⟨HW3.out,by show s1.1.length≤_;omega⟩,HNM,hid (Fr.refl _ _ _ _ _)⟩
 case round =>
  obtain⟨i,hi,rfl,HWi,HNi,HFi⟩:=hrel
  by_cases hlt:i < m
  ·have k0:(0:Int)≤(i:Int):=by omega
   have k1:(i:Int) < (m:Int):=by omega
   have hnow:¬ OW W wr nb:=HFi.out.own nb HLT3.out HNO3.out
   have hltw:nb < wr.heap.size:=Nat.lt_of_lt_of_le HLT3.out HFi.out.size
   have hold:Hold N W nb (i * 19) (L+10+i * 4000000) (nodesW s1 P i,P i) wr:=⟨HWi.out.1,HNi.out i hlt,hnow,hltw,HN.out.2,HNN.out,HWi.out.2,HPm.out.bd i hlt,HPm.out.ws i hlt,HPm.out.bs i hlt⟩
   have CN:=hid (wnode_to N W nb (i * 19) (L+10+i * 4000000) (nodesW s1 P i,P i) wr HM.out (HT3.out.below HFi.out.below HM.out) (by omega) (HPm.out.len i hlt) hold)
   have HNW:=hid hnow
   have HLW:=hid hltw
   unfold CPkW.Left at CN
   clear hold hnow hltw
   go_wp2_with (first
    | (go_at_call 210
       refine CN.out.mono ?_
       rintro e w5 ⟨rfl,h1,h2⟩
       have H5:=hid h1
       have F5:=hid h2
       clear h1 h2))
   have hstep:(WrAt W (nodesW s1 P (i+1)) w5∧(nodesW s1 P (i+1)).1.length≤L+10+(i+1) * 4000000)∧(∀ j,j < m→NM PT (OW W) nb (j * 19) (P j).1 (P j).2.1 (P j).2.2 w5)∧Fr (OW W) N nb (fun _=>True) w3 w5:=by
    have e2:(nodeF (nodesW s1 P i,P i)).2=P i:=by unfold nodeF;rw [fld2]
    refine⟨⟨H5.out.at_,Nat.le_trans H5.out.len (by omega)⟩,fun j hj=>?_,HFi.out.trans (F5.out.mono fun _ _=>trivial)⟩
    by_cases e:j=i
    ·subst e
     have:=H5.out.nm
     rw [e2] at this
     exact this
    ·exact nm_keepJ (HNi.out j hj) HLW.out HNW.out F5.out (fun q hq hJ=>by unfold Jn at hJ;omega)
   obtain⟨g1,g2,g3⟩:=hstep
   have G1:=hid g1
   have G2:=hid g2
   have G3:=hid g3
   clear g1 g2 g3
   go_roundw
   case rel=>exact⟨i+1,by omega,by go_num,G1,G2,G3⟩
   case measure=>simp [intOf];omega
  ·obtain rfl:i=m:=by omega
   go_wp2_with fail
   go_ret
   exact⟨_,_,rfl,HWi.out.1,by have:=HWi.out.2;omega,HFW.out _ HFi.out⟩
end CPkI
end
section
namespace CValid
open Plain CSat CFix CShape CTensor CConv CSpan CKind CGraph CJoin CGuard CBund CCost CVerd
structure Ls where
 Q:Nat→List Int × List Int
 hw:List Int
 hb:List Int
def ls0:Ls:=⟨fun _=>([],[]),[],[]⟩
def ndw (b:Bk) (s:Ls) (j:Nat):NdW:=(b.X j,(s.Q j).1,(s.Q j).2)
structure LsOk (w:World) (B:Nat) (b:Bk) (s:Ls):Prop where
 nds:∀ j,j < b.n→NdL w B (b.X j) (s.Q j).1 (s.Q j).2
 lw:s.hw.length=b.hd.nW∧b.hd.nW≤b.hd.cW∧I8b s.hw
 lb:s.hb.length=b.hd.nB∧b.hd.nB≤b.hd.cB∧∀ q, -2147483648≤s.hb.getD q 0∧s.hb.getD q 0≤2147483647
 rw:Kit.Rd w B b.hd.WA (I8s s.hw)
 rb:Kit.Rd w B b.hd.BA (I32v s.hb)
theorem ndl_below {w w':World} {B:Nat} {x:Nd} {ws bs:List Int} (h:NdL w B x ws bs) (hb:Below B w w'):NdL w' B x ws bs :=
 ⟨NdOk.below h.ok hb,h.lw,h.lb,h.cw,h.iw,h.ib,h.rw.below hb,h.rb.below hb⟩
theorem ndl_more {w:World} {B B':Nat} {x:Nd} {ws bs:List Int} (h:NdL w B x ws bs) (hb:B≤B'):NdL w B' x ws bs :=
 ⟨NdOk.more h.ok hb,h.lw,h.lb,h.cw,h.iw,h.ib,h.rw.more hb,h.rb.more hb⟩
theorem LsOk.below {w w':World} {B:Nat} {b:Bk} {s:Ls} (h:LsOk w B b s) (hb:Below B w w'):LsOk w' B b s :=
 ⟨fun j hj=>ndl_below (h.nds j hj) hb,h.lw,h.lb,h.rw.below hb,h.rb.below hb⟩
theorem LsOk.more {w:World} {B B':Nat} {b:Bk} {s:Ls} (h:LsOk w B b s) (hb:B≤B'):LsOk w B' b s :=
 ⟨fun j hj=>ndl_more (h.nds j hj) hb,h.lw,h.lb,h.rw.more hb,h.rb.more hb⟩
theorem ls_of {w:World} {B:Nat} {b:Bk} (h:BkOk w B b):∃ s,LsOk w B b s:=by
 obtain⟨Q,hQ⟩:=zbw (([],[]):List Int × List Int) (n:=b.n) (p:=fun j q=>NdL w B (b.X j) q.1 q.2) (fun j hj=>ndl_of (h.each j hj))
 obtain⟨-,⟨zs,a1,a2,a3,a4,a5⟩,⟨ys,b1,b2,b3,b4,b5⟩⟩:=h.head
 refine⟨⟨Q,zs,ys⟩,hQ,⟨a1,a2,?_⟩,⟨b1,b2,?_⟩,a5,b5⟩
 ·intro q
  by_cases hq:q < zs.length
  ·have e:zs.getD q 0=zs[q]:=by rw [List.getD_eq_getElem?_getD,List.getElem?_eq_getElem hq];rfl
   show -128≤zs.getD q 0∧zs.getD q 0≤127
   rw [e]
   simpa [Lit.wf,IntKind.min,IntKind.max,IntKind.signed,IntKind.bits] using a4 _ (List.getElem_mem hq)
  ·show -128≤zs.getD q 0∧zs.getD q 0≤127
   rw [List.getD_eq_getElem?_getD,List.getElem?_eq_none (Nat.le_of_not_lt hq)];exact⟨by decide,by decide⟩
 ·intro q
  by_cases hq:q < ys.length
  ·have e:ys.getD q 0=ys[q]:=by rw [List.getD_eq_getElem?_getD,List.getElem?_eq_getElem hq];rfl
   show -2147483648≤ys.getD q 0∧ys.getD q 0≤2147483647
   rw [e]
   simpa [Lit.wf,IntKind.min,IntKind.max,IntKind.signed,IntKind.bits] using b4 _ (List.getElem_mem hq)
  ·show -2147483648≤ys.getD q 0∧ys.getD q 0≤2147483647
   rw [List.getD_eq_getElem?_getD,List.getElem?_eq_none (Nat.le_of_not_lt hq)];exact⟨by decide,by decide⟩
def FewK (b:Bk):Prop:=b.n≤12∧(∀ j,j < b.n→(b.X j).nW≤1000∧(b.X j).nB≤100)∧b.hd.nW≤4000∧b.hd.nB≤100
def FewMd (m:Md):Prop:=m.n≤8∧∀ k,k < m.n→FewK (m.K k)
def FewBu (u:Bu):Prop:=u.n≤4∧∀ j,j < u.n→FewMd (u.M j)
/-! ### a block -/
abbrev rall:Rch:=(-128,127)
def outR (Y:Nat→NdW) (n:Nat):Rch:=(rcL Y rall n).getD n rch0
def told (h:Hd):Bool:=decide (0 < h.nW) || decide (0 < h.nB) || decide (h.D≠0)
def exZ (h:Hd) (ex:Bool) (s:Ls) (o:Tri) (r:Rch) (cl:Int) (last:Bool):Int :=
 if ex=false then (if (last || told h)=true then 11 else 0)
 else if verdE o.1 o.2.1 o.2.2 h.nW h.nB h.D cl≠0 then verdE o.1 o.2.1 o.2.2 h.nW h.nB h.D cl else headZ s.hw s.hb h.nW h.nB r.1 r.2
def blkO (b:Bk) (s:Ls) (t0:Tri) (cl:Int) (last:Bool):Option (Int × Int) :=
 match outS b.X t0 b.n with
 | some r=>some r
 | none=>match outG (ndw b s) rall b.n with
   | some r=>some r
   | none=>if exZ b.hd b.ex s (outT b.X t0 b.n) (outR (ndw b s) b.n) cl last=0 then none else some (-1,exZ b.hd b.ex s (outT b.X t0 b.n) (outR (ndw b s) b.n) cl last)
def bkP (b:Bk) (s:Ls) (t0:Tri) (cl:Int) (last:Bool):Int:=match blkO b s t0 cl last with | some r=>r.1 | none=>b.n
def bkZ (b:Bk) (s:Ls) (t0:Tri) (cl:Int) (last:Bool):Int:=match blkO b s t0 cl last with | some r=>r.2 | none=>0
theorem outG_nz {Y:Nat→NdW} {r0:Rch} {n:Nat} {k z:Int} (h:outG Y r0 n=some (k,z)):z≠0:=by
 unfold outG at h
 split at h
 ·cases h;decide
 ·split at h
  ·cases h;decide
  ·split at h
   ·cases h;decide
   ·have:∀ m,∀ q:Nat × Int,zbo Y r0 m=some q→q.2≠0:=by
     intro m
     induction m with
     | zero=>intro q hq;cases hq
     | succ m ih =>
       intro q hq
       rw [zbo] at hq
       cases hs:zbo Y r0 m with
       | some r=>rw [hs] at hq;cases hq;exact ih _ hs
       | none =>
         rw [hs] at hq
         by_cases hz:stopG (Y m) (rcL Y r0 m)=0
         ·simp [hz] at hq
         ·simp [hz] at hq;subst hq;exact hz
    cases hs:zbo Y r0 n with
    | none=>rw [hs] at h;cases h
    | some q=>rw [hs] at h;cases h;exact this n q hs
theorem blkO_nz {b:Bk} {s:Ls} {t0:Tri} {cl:Int} {last:Bool} {k z:Int} (h:blkO b s t0 cl last=some (k,z)):z≠0:=by
 unfold blkO at h
 split at h
 ·rename_i r hs;cases h;exact outS_nzC hs
 ·split at h
  ·rename_i r hs;cases h;exact outG_nz hs
  ·split at h
   ·cases h
   ·rename_i hz;cases h;exact hz
theorem bkZ_none {b:Bk} {s:Ls} {t0:Tri} {cl:Int} {last:Bool} (h:bkZ b s t0 cl last=0):blkO b s t0 cl last=none:=by
 unfold bkZ at h
 cases hs:blkO b s t0 cl last with
 | none=>rfl
 | some r=>rw [hs] at h;exact absurd h (blkO_nz (k:=r.1) hs)
/-! ### a model -/
def lastB (m:Md) (k:Nat):Bool:=decide (k+1=m.n)
def mdO (m:Md) (S:Nat→Ls) (t0:Tri) (cl:Int):Nat→Option (Int × Int × Int)
 | 0=>none
 | k+1=>match mdO m S t0 cl k with
   | some r=>some r
   | none=>(blkO (m.K k) (S k) (inT m t0 k) cl (lastB m k)).map fun r=>((k:Int),r.1,r.2)
theorem mdO_end {m:Md} {S:Nat→Ls} {t0:Tri} {cl:Int} {k n:Nat} (hk:k < n) (h:mdO m S t0 cl k=none) {p z:Int} (hz:blkO (m.K k) (S k) (inT m t0 k) cl (lastB m k)=some (p,z)):mdO m S t0 cl n=some ((k:Int),p,z):=by
 obtain⟨d,rfl⟩:∃ d,n=k+1+d:=⟨n - (k+1),by omega⟩
 clear hk
 induction d with
 | zero=>simp [mdO,h,hz]
 | succ d ih=>rw [show k+1+(d+1)=(k+1+d)+1 by omega,mdO,ih]
theorem mdO_go {m:Md} {S:Nat→Ls} {t0:Tri} {cl:Int} {k:Nat} (h:mdO m S t0 cl k=none) (hz:blkO (m.K k) (S k) (inT m t0 k) cl (lastB m k)=none):mdO m S t0 cl (k+1)=none:=by
 simp [mdO,h,hz]
theorem mdO_nz {m:Md} {S:Nat→Ls} {t0:Tri} {cl:Int} : ∀ {n:Nat} {k p z:Int},mdO m S t0 cl n=some (k,p,z)→z≠0
 | 0,k,p,z,h=>by cases h
 | n+1,k,p,z,h=>by
   rw [mdO] at h
   cases hs:mdO m S t0 cl n with
   | some r=>rw [hs] at h;cases h;exact mdO_nz hs
   | none =>
     rw [hs] at h
     cases hb:blkO (m.K n) (S n) (inT m t0 n) cl (lastB m n) with
     | none=>rw [hb] at h;cases h
     | some r=>rw [hb] at h;cases h;exact blkO_nz (k:=r.1) hb
def modO (m:Md) (S:Nat→Ls) (t0:Tri) (cl:Int):Option (Int × Int × Int) :=
 if m.n=0 then some (-1, -1,12) else if 6 < m.n then some (-1, -1,4) else mdO m S t0 cl m.n
theorem modO_nz {m:Md} {S:Nat→Ls} {t0:Tri} {cl:Int} {k p z:Int} (h:modO m S t0 cl=some (k,p,z)):z≠0:=by
 unfold modO at h
 split at h
 ·cases h;decide
 ·split at h
  ·cases h;decide
  ·exact mdO_nz h
/-! ### a bundle -/
def buO (u:Bu) (S:Nat→Nat→Ls):Nat→Option (Int × Int × Int × Int)
 | 0=>none
 | i+1=>match buO u S i with
   | some r=>some r
   | none=>(modO (u.M i) (S i) (mdT0 u) u.cl).map fun r=>((i:Int),r.1,r.2.1,r.2.2)
theorem buO_end {u:Bu} {S:Nat→Nat→Ls} {i n:Nat} (hi:i < n) (h:buO u S i=none) {k p z:Int} (hz:modO (u.M i) (S i) (mdT0 u) u.cl=some (k,p,z)):buO u S n=some ((i:Int),k,p,z):=by
 obtain⟨d,rfl⟩:∃ d,n=i+1+d:=⟨n - (i+1),by omega⟩
 clear hi
 induction d with
 | zero=>simp [buO,h,hz]
 | succ d ih=>rw [show i+1+(d+1)=(i+1+d)+1 by omega,buO,ih]
theorem buO_go {u:Bu} {S:Nat→Nat→Ls} {i:Nat} (h:buO u S i=none) (hz:modO (u.M i) (S i) (mdT0 u) u.cl=none):buO u S (i+1)=none:=by
 simp [buO,h,hz]
def zbp (u:Bu):Int:=if zae u.H u.W u.C=false then 5 else if u.cl < 2∨16 < u.cl then 2 else if u.n=0 then 12 else if 3 < u.n then 4 else 0
def bunV (u:Bu) (S:Nat→Nat→Ls):Int × Int × Int × Int :=
 if zbp u≠0 then (zbp u, -1, -1, -1) else match buO u S u.n with
  | some r=>(r.2.2.2,r.1,r.2.1,r.2.2.1)
  | none=>(0,0,0,0)
/-! ### parts -/
end CValid
end
end Go.Proofs.YtfgdfignoakkaaaGreatDoor
