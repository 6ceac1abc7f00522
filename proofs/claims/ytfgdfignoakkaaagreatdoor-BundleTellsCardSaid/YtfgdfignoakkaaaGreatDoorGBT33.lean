/- -/
import Derived.Test.YtfgdfignoakkaaaGreatDoorGBT32
open Go.Lib (hid)
open Nat (le_refl lt_of_succ_lt lt_succ_self)
set_option linter.unusedVariables false
set_option linter.unusedSimpArgs false
set_option maxRecDepth 100000
set_option maxHeartbeats 16000000
namespace Go.Proofs.YtfgdfignoakkaaaGreatDoor
namespace CConv
end CConv
namespace CGraph
end CGraph
namespace CKind
end CKind
namespace CLeb
end CLeb
namespace COctet
end COctet
namespace CPack
end CPack
namespace CSat
end CSat
namespace CShape
end CShape
namespace CTensor
end CTensor
namespace Kit
end Kit
open Go Go.ChangeShapes Go.WideShapes Go.ChangeAt Go.RowKit Go.Deep
section
namespace CPk
open Go Go.ChangeShapes Go.WideShapes Go.ChangeAt Go.RowKit
open LebNum CLeb COctet CKind CPack
structure Fr (O:World→Nat→Prop) (N nb:Nat) (J:Nat→Prop) (w w':World):Prop where
 below:Below N w w'
 block:∀ k,k < w.heap.size→k≠nb→¬ O w k→w'.heap[k]?=w.heap[k]?
 own:∀ k,k < w.heap.size→¬ O w k→¬ O w' k
 cell:nb < w.heap.size→¬ O w nb→∀ i,¬ J i→w'.cell? ⟨nb,i,none⟩=w.cell? ⟨nb,i,none⟩
 froz:nb < w.heap.size→¬ O w nb→∀ i,w'.frozen? ⟨nb,i,none⟩=w.frozen? ⟨nb,i,none⟩
section
variable {O:World→Nat→Prop} {N nb:Nat} {J J':Nat→Prop} {a b c w w':World}
theorem Fr.refl (O:World→Nat→Prop) (N nb:Nat) (J:Nat→Prop) (w:World):Fr O N nb J w w:=⟨Below.refl _ _,fun _ _ _ _=>rfl,fun _ _ h=>h,fun _ _ _ _=>rfl,fun _ _ _=>rfl⟩
theorem Fr.size (h:Fr O N nb J w w'):w.heap.size≤w'.heap.size:=h.below.size
theorem Fr.trans (h:Fr O N nb J a b) (k:Fr O N nb J b c):Fr O N nb J a c :=
 ⟨h.below.trans k.below,fun q hq h1 h2=>(k.block q (Nat.lt_of_lt_of_le hq h.size) h1 (h.own q hq h2)).trans (h.block q hq h1 h2),
  fun q hq h1=>k.own q (Nat.lt_of_lt_of_le hq h.size) (h.own q hq h1),
  fun hn ho i hi=>(k.cell (Nat.lt_of_lt_of_le hn h.size) (h.own nb hn ho) i hi).trans (h.cell hn ho i hi),
  fun hn ho i=>(k.froz (Nat.lt_of_lt_of_le hn h.size) (h.own nb hn ho) i).trans (h.froz hn ho i)⟩
theorem Fr.mono (h:Fr O N nb J w w') (hJ:∀ i,J i→J' i):Fr O N nb J' w w':=⟨h.below,h.block,h.own,fun hn ho i hi=>h.cell hn ho i (fun q=>hi (hJ i q)),h.froz⟩
theorem Fr.any {W:Nat} {J0:Nat→Prop} (h:Fr O N W J0 w w') (hW:O w W):Fr O N nb J w w' :=
 ⟨h.below,fun k hk _ ho=>h.block k hk (fun e=>ho (e ▸ hW)) ho,h.own,fun hn ho i _=>World.cell?_of_block (h.block nb hn (fun e=>ho (e ▸ hW)) ho),fun hn ho i=>World.frozen?_of_block (h.block nb hn (fun e=>ho (e ▸ hW)) ho)⟩
theorem Fr.of_below (h:Below w.heap.size w w') (hN:N≤w.heap.size) (hO:∀ k,k < w.heap.size→¬ O w k→¬ O w' k):Fr O N nb J w w' :=
 ⟨h.mono hN,fun k hk _ _=>h.block k hk,hO,fun hn _ i _=>h.cell (p:=⟨nb,i,none⟩) hn,fun hn _ i=>h.frozen (p:=⟨nb,i,none⟩) hn⟩
theorem Fr.new {mb:Nat} {K:Nat→Prop} {v:World} (hv:Below v.heap.size v w) (hO:∀ k,k < v.heap.size→¬ O v k→¬ O w k) (hN:N≤v.heap.size) (hm:v.heap.size≤mb) (h:Fr O N mb K w w'):Fr O N nb J v w' :=
 ⟨(hv.mono hN).trans h.below,fun k hk _ ho=>(h.block k (Nat.lt_of_lt_of_le hk hv.size) (fun e=>by omega) (hO k hk ho)).trans (hv.block k hk),
  fun k hk ho=>h.own k (Nat.lt_of_lt_of_le hk hv.size) (hO k hk ho),
  fun hn ho i _=>(World.cell?_of_block (h.block nb (Nat.lt_of_lt_of_le hn hv.size) (fun e=>by omega) (hO nb hn ho))).trans (hv.cell (p:=⟨nb,i,none⟩) hn),
  fun hn ho i=>(World.frozen?_of_block (h.block nb (Nat.lt_of_lt_of_le hn hv.size) (fun e=>by omega) (hO nb hn ho))).trans (hv.frozen (p:=⟨nb,i,none⟩) hn)⟩
theorem Fr.set (i:Nat) (v:Value) (hN:N≤nb) (hJ:J i) (hO:∀ k,¬ O w k→¬ O (w.setCell ⟨nb,i,none⟩ v) k):Fr O N nb J w (w.setCell ⟨nb,i,none⟩ v) :=
 ⟨(Below.refl N w).setCell (p:=⟨nb,i,none⟩) hN v,fun k _ h1 _=>Below.heap_setCell _ _ _ k h1,fun k _ h=>hO k h,
  fun _ _ j hj=>World.cell?_setCell_other _ _ _ _ (fun e=>hj (by injection e with e1 e2;rw [← e2];exact hJ)),fun _ _ j=>World.frozen?_setCell _ _ _ _⟩
end
structure Rw (P:Nat→Prop) (O:World→Nat→Prop) (nb:Nat) (w:World) (A:Option Addr) (xs:List Value):Prop where
 rd:Kit.Rd w w.heap.size A xs
 apart:xs≠[]→∀ ad,A=some ad→ad.block≠nb∧¬ O w ad.block
 wh:xs≠[]→∀ ad,A=some ad→P ad.block
def PT (_:Nat):Prop:=True
theorem Rw.fr {P:Nat→Prop} {O:World→Nat→Prop} {N nb:Nat} {J:Nat→Prop} {w w':World} {A:Option Addr} {xs:List Value} (h:Rw P O nb w A xs) (f:Fr O N nb J w w'):Rw P O nb w' A xs:=by
 have hb:xs≠[]→∀ ad,A=some ad→ad.block < w.heap.size:=fun hx ad hA=>by
  obtain⟨x,t,rfl⟩:=List.exists_cons_of_ne_nil hx
  obtain⟨ad',h1,h2, -⟩:=h.rd 0 x rfl
  rw [hA] at h1;cases h1;exact h2
 refine⟨fun j u hu=>?_,fun hx ad hA=>?_,h.wh⟩
 ·have hx:xs≠[]:=by rintro rfl;simp at hu
  obtain⟨ad,h1,h2,h3⟩:=h.rd j u hu
  obtain⟨g1,g2⟩:=h.apart hx ad h1
  exact⟨ad,h1,Nat.lt_of_lt_of_le h2 f.size,by rw [World.cell?_of_block (a:=ad.add j) (w':=w') (w:=w) (by rw [Kit.add_block];exact f.block ad.block h2 g1 g2)];exact h3⟩
 ·obtain⟨g1,g2⟩:=h.apart hx ad hA
  exact⟨g1,f.own _ (hb hx ad hA) g2⟩
def NdO (nb o:Nat) (x:Nd) (w:World):Prop:=∀ j v,x.val.toList[j]?=some v→w.cell? ⟨nb,o+j,none⟩=some v∧w.frozen? ⟨nb,o+j,none⟩=false
theorem NdO.at {nb o:Nat} {x:Nd} {w:World} (h:NdO nb o x w) (j:Nat) (v:Value) (hv:x.val.toList[j]?=some v):w.cell? ⟨nb,o+j,none⟩=some v:=(h j v hv).1
theorem NdO.fr_ {nb o:Nat} {x:Nd} {w:World} (h:NdO nb o x w) (j:Nat) (v:Value) (hv:x.val.toList[j]?=some v):w.frozen? ⟨nb,o+j,none⟩=false:=(h j v hv).2
theorem NdO.put {O:World→Nat→Prop} {N nb o i:Nat} {x y:Nd} {w w':World} {v:Value} (h:NdO nb o x w) (hn:nb < w.heap.size) (ho:¬ O w nb) (f:Fr O N nb (fun q=>q=o+i) w w') (hc:w'.cell? ⟨nb,o+i,none⟩=some v) (hi:i < x.val.toList.length) (hy:y.val.toList=x.val.toList.set i v):NdO nb o y w':=by
 intro j u hu
 rw [hy,List.getElem?_set] at hu
 by_cases e:i=j
 ·subst e
  rw [if_pos rfl,if_pos hi] at hu
  cases hu
  refine⟨hc,?_⟩
  rw [f.froz hn ho]
  exact (h i x.val.toList[i] (List.getElem?_eq_getElem hi)).2
 ·rw [if_neg e] at hu
  refine⟨?_,?_⟩
  ·rw [f.cell hn ho (o+j) (by omega)];exact (h j u hu).1
  ·rw [f.froz hn ho];exact (h j u hu).2
def ndLay (x:Nd) (WA:Option Addr) (nW cW:Nat) (BA:Option Addr) (nB cB:Nat):Nd := { x with WA:=WA,nW:=nW,cW:=cW,BA:=BA,nB:=nB,cB:=cB }
def NM (P:Nat→Prop) (O:World→Nat→Prop) (nb o:Nat) (x:Nd) (ws bs:List Int) (w:World):Prop :=
 ∃ WA cW BA cB,NdO nb o (ndLay x WA ws.length cW BA bs.length cB) w∧Rw P O nb w WA (ws.map (.int .i8))∧Rw P O nb w BA (bs.map (.int .i32))
def getI (x:Nd):Nat→Int
 | 0=>x.kd | 1=>x.na | 2=>x.nb | 3=>x.K | 4=>x.S | 5=>x.P | 6=>x.O | 7=>x.Z | 8=>x.Y
 | 11=>x.m1 | 12=>x.s1 | 13=>x.z1 | 14=>x.m2 | 15=>x.s2 | 16=>x.z2 | 17=>x.lo | 18=>x.hi | _=>0
def putI (x:Nd):Nat→Int→Nd
 | 0,v => { x with kd:=v } | 1,v => { x with na:=v } | 2,v => { x with nb:=v } | 3,v => { x with K:=v } | 4,v => { x with S:=v } | 5,v => { x with P:=v } | 6,v => { x with O:=v } | 7,v => { x with Z:=v } | 8,v => { x with Y:=v }
 | 11,v => { x with m1:=v } | 12,v => { x with s1:=v } | 13,v => { x with z1:=v } | 14,v => { x with m2:=v } | 15,v => { x with s2:=v } | 16,v => { x with z2:=v } | 17,v => { x with lo:=v } | 18,v => { x with hi:=v } | _,_=>x
def is64 (j:Nat):Prop:=j=0∨j=1∨j=2∨j=3∨j=4∨j=5∨j=6∨j=12∨j=15
def is8 (j:Nat):Prop:=j=7∨j=8∨j=13∨j=16∨j=17∨j=18
def is32 (j:Nat):Prop:=j=11∨j=14
section
variable (x:Nd) (WA:Option Addr) (nW cW:Nat) (BA:Option Addr) (nB cB:Nat)
theorem ndg64 {j:Nat} (h:is64 j):(ndLay x WA nW cW BA nB cB).val.toList[j]?=some (.int .i64 (getI x j)):=by
 rcases h with rfl | rfl | rfl | rfl | rfl | rfl | rfl | rfl | rfl <;> rfl
theorem ndg8 {j:Nat} (h:is8 j):(ndLay x WA nW cW BA nB cB).val.toList[j]?=some (.int .i8 (getI x j)):=by
 rcases h with rfl | rfl | rfl | rfl | rfl | rfl <;> rfl
theorem ndg32 {j:Nat} (h:is32 j):(ndLay x WA nW cW BA nB cB).val.toList[j]?=some (.int .i32 (getI x j)):=by
 rcases h with rfl | rfl <;> rfl
theorem ndp32 {j:Nat} (h:is32 j) (v:Int):(ndLay (putI x j v) WA nW cW BA nB cB).val.toList=(ndLay x WA nW cW BA nB cB).val.toList.set j (.int .i32 v):=by
 rcases h with rfl | rfl <;> rfl
end
theorem is32.lt {j:Nat} (h:is32 j):j < 19:=by rcases h with rfl | rfl <;> decide
theorem putI_get (x:Nd) (j:Nat):putI x j (getI x j)=x:=by
 unfold putI getI
 split <;> rfl
structure NBd (x:Nd):Prop where
 b64:∀ j,is64 j → -9223372036854775808≤getI x j∧getI x j≤9223372036854775807
 b8:∀ j,is8 j → -128≤getI x j∧getI x j≤127
 b32:∀ j,is32 j → -2147483648≤getI x j∧getI x j≤2147483647
section
variable {P:Nat→Prop} {O:World→Nat→Prop} {N nb o:Nat} {J:Nat→Prop} {x:Nd} {ws bs:List Int} {w w':World}
theorem NM.keep (h:NM P O nb o x ws bs w) (hn:nb < w.heap.size) (ho:¬ O w nb) (f:Fr O N nb (fun _=>False) w w'):NM P O nb o x ws bs w':=by
 obtain⟨WA,cW,BA,cB,h1,h2,h3⟩:=h
 exact⟨WA,cW,BA,cB,fun j v hv=>⟨(f.cell hn ho _ id).trans (h1 j v hv).1,(f.froz hn ho _).trans (h1 j v hv).2⟩,h2.fr f,h3.fr f⟩
theorem NM.put (h:NM P O nb o x ws bs w) (hn:nb < w.heap.size) (ho:¬ O w nb) {j:Nat} {v:Value} {y:Nd} (hj:j < 19) (f:Fr O N nb (fun q=>q=o+j) w w') (hc:w'.cell? ⟨nb,o+j,none⟩=some v)
  (hy:∀ WA nW cW BA nB cB,(ndLay y WA nW cW BA nB cB).val.toList=(ndLay x WA nW cW BA nB cB).val.toList.set j v):NM P O nb o y ws bs w':=by
 obtain⟨WA,cW,BA,cB,h1,h2,h3⟩:=h
 exact⟨WA,cW,BA,cB,h1.put hn ho f hc hj (hy _ _ _ _ _ _),h2.fr f,h3.fr f⟩
end
def Jn (o q:Nat):Prop:=o≤q∧q < o+19
def flag (k:Int):Nat→Bool
 | 2=>tB k | 3=>tW k | 4=>tW k | 5=>tW k || k == 8 | 6=>tO k | 7=>tZ k | 8=>tB k | 9=>tS k | 10=>tS k
 | 11=>tQ k | 12=>tQ k | 13=>tQ k | 14=>tB k | 15=>tB k | 17=>tQ k | 18=>tQ k | _=>false
structure Bxd (O:World→Nat→Prop) (nb b:Nat) (vs:List Value) (w:World):Prop where
 cells:w.rangeAt b 0 vs
 lt:b < w.heap.size
 ne:b≠nb
 own:¬ O w b
theorem Bxd.fr {O:World→Nat→Prop} {N nb b:Nat} {J:Nat→Prop} {vs:List Value} {w w':World} (h:Bxd O nb b vs w) (f:Fr O N nb J w w'):Bxd O nb b vs w' :=
 ⟨fun j v hj=>by rw [World.cell?_of_block (a:=⟨b,0+j,none⟩) (f.block b h.lt h.ne h.own)];exact h.cells j v hj,Nat.lt_of_lt_of_le h.lt f.size,h.ne,f.own b h.lt h.own⟩
theorem Bxd.at {O:World→Nat→Prop} {nb b:Nat} {vs:List Value} {w:World} (h:Bxd O nb b vs w) (j:Nat) (v:Value) (hv:vs[j]?=some v):w.cell? ⟨b,j,none⟩=some v:=by
 have:=h.cells j v hv
 rwa [Nat.zero_add] at this
def OW (W:Nat) (w:World) (k:Nat):Prop:=k=W∨∃ v,w.cell? ⟨W,0,none⟩=some v∧v.ownBlock=some k
abbrev WS:=List Int × Int
def WrAt (W:Nat) (s:WS) (w:World):Prop:=∃ v,w.cell? ⟨W,0,none⟩=some v∧w.cell? ⟨W,1,none⟩=some (.int .i64 s.2)∧w.frozen? ⟨W,0,none⟩=false∧w.frozen? ⟨W,1,none⟩=false∧Byts (W+1) v s.1 w
def failW (s:WS) (e:Int):WS:=(s.1,if s.2=0 then e else s.2)
def addW (s:WS) (xs:List Int):WS:=(if s.2=0 then s.1 ++ xs else s.1,s.2)
theorem wr_own {W:Nat} {w:World} {v:Value} (h:w.cell? ⟨W,0,none⟩=some v) {k:Nat} (hk:OW W w k):k=W∨v.ownBlock=some k:=by
 rcases hk with h0 | ⟨u,h1,h2⟩
 ·exact .inl h0
 ·rw [h] at h1;cases h1;exact .inr h2
theorem own_heap2 {w w':World} {base s n:Nat} {e:TypeId} {v:Value} {xs:List Value} (h:w.ownsRow base e s v n xs) (hk:∀ g,v.ownBlock=some g→w'.heap[g]?=w.heap[g]?):w'.ownsRow base e s v n xs:=by
 refine⟨h.1,?_⟩
 rcases h.2 with h0 | ⟨g,cap,cur,rfl,h2,hh,rest⟩
 ·exact .inl h0
 ·exact .inr ⟨g,cap,cur,rfl,h2,by rw [hk g rfl];exact hh,rest⟩
theorem WrAt.keep {W:Nat} {s:WS} {w w':World} (h:WrAt W s w) (hk:∀ k,OW W w k→w'.heap[k]?=w.heap[k]?):WrAt W s w':=by
 obtain⟨v,h1,h2,h3,h4,h5⟩:=h
 have hW:=hk W (.inl rfl)
 exact⟨v,by rw [World.cell?_of_block (a:=⟨W,0,none⟩) hW];exact h1,by rw [World.cell?_of_block (a:=⟨W,1,none⟩) hW];exact h2,by rw [World.frozen?_of_block (a:=⟨W,0,none⟩) hW];exact h3,by rw [World.frozen?_of_block (a:=⟨W,1,none⟩) hW];exact h4,own_heap2 h5 fun g hg=>hk g (.inr ⟨v,h1,hg⟩)⟩
theorem WrAt.lt {W:Nat} {s:WS} {w:World} (h:WrAt W s w):W < w.heap.size:=by
 obtain⟨v,h1, -⟩:=h
 exact World.block_lt_of_cell? w _ h1
theorem OW.keep {W:Nat} {w w':World} (h:w'.heap[W]?=w.heap[W]?) (k:Nat):OW W w' k↔OW W w k:=by
 unfold OW
 rw [World.cell?_of_block (a:=⟨W,0,none⟩) h]
theorem WrAt.own_lt {W:Nat} {s:WS} {w:World} (h:WrAt W s w) {k:Nat} (hk:OW W w k):k < w.heap.size:=by
 have hl:=h.lt
 obtain⟨v,h1, -, -, -,h5⟩:=h
 rcases wr_own h1 hk with rfl | e
 ·exact hl
 ·rcases h5.2 with ⟨rfl,_⟩ | ⟨g,cap,cur,rfl,_,hh,_⟩
  ·cases e
  ·cases e
   rcases Nat.lt_or_ge g w.heap.size with q | q
   ·exact q
   ·rw [Array.getElem?_eq_none q] at hh;cases hh
theorem WrAt.below {W:Nat} {s:WS} {w w':World} (h:WrAt W s w) (hb:Below w.heap.size w w'):WrAt W s w':=h.keep fun k hk=>hb.block k (h.own_lt hk)
theorem WrAt.fr {W N nb:Nat} {J:Nat→Prop} {s:WS} {w w':World} (h:WrAt W s w) (hb:Below w.heap.size w w') (hN:N≤w.heap.size):Fr (OW W) N nb J w w' :=
 Fr.of_below hb hN fun k _ ho=>fun q=>ho ((OW.keep (hb.block W h.lt) k).1 q)
theorem wfail_to (N W:Nat) (s:WS) (er:Int) (w:World) (hN:N≤W) (h:WrAt W s w) :
  Calls Tryz.prog 216 #[.pointer (some ⟨W,0,none⟩),.int .i64 er] w fun e w'=>e=.returned (.tuple #[])∧WrAt W (failW s er) w'∧Fr (OW W) N W (fun _=>True) w w':=by
 have HH:=hid h
 obtain⟨v,h1,h2,h3,h4,h5⟩:=h
 unfold failW
 by_cases h0:s.2=0
 ·rw [if_pos h0]
  rw [h0] at h2
  have HO:=hid h5
  clear h0 h5
  go_enter Tryz.func216,Tryz.ntmps216
  go_wp2_with fail
  go_end0
  refine⟨rfl,⟨v,?_,?_,?_,?_,?_⟩,?_⟩
  ·rw [World.cell?_setCell_other _ _ _ _ (by simp)];exact h1
  ·exact World.cell?_setCell_same _ _ _ h2
  ·rw [World.frozen?_setCell];exact h3
  ·rw [World.frozen?_setCell];exact h4
  ·exact own_heap2 HO.out fun g hg=>Below.heap_setCell _ _ _ g (fun e=>by have:=Kit.zam HO.out g hg;simp at e;omega)
  ·refine Fr.set 1 _ hN trivial fun k hk q=>hk ?_
   unfold OW at q ⊢
   rwa [World.cell?_setCell_other _ _ _ _ (by simp)] at q
 ·rw [if_neg h0]
  have h6:(s.2 == 0)=false:=by simpa using h0
  clear h5
  go_enter Tryz.func216,Tryz.ntmps216
  go_wp2_with fail
  go_end0
  exact⟨rfl,HH.out,Fr.refl _ _ _ _ _⟩
theorem wadd_to (N W:Nat) (s:WS) (xs:List Int) (A:Option Addr) (n c:Nat) (hn:xs.length=n) (w:World) (hr:Kit.Rd w w.heap.size A (zao xs)) (hl:s.1.length≤1000000000) (hx:n≤1000000) (hN:N≤W) (h:WrAt W s w) :
  Calls Tryz.prog 218 #[.pointer (some ⟨W,0,none⟩),.slice A n c] w fun e w'=>e=.returned (.tuple #[])∧WrAt W (addW s xs) w'∧Fr (OW W) N W (fun _=>True) w w':=by
 obtain⟨i0,hi0,hi1,hi2,hi3⟩:=info_parts info_u8
 have HH:=hid h
 have HWL:=hid h.lt
 obtain⟨v,h1,h2,h3,h4,h5⟩:=h
 unfold addW
 by_cases h0:s.2=0
 ·rw [if_pos h0]
  rw [h0] at h2 ⊢
  obtain⟨m,hm⟩:∃ m,s.1.length=m:=⟨_,rfl⟩
  unfold Byts at h5
  rw [hm] at h5 hl
  obtain⟨Av,cv,rfl, -, -, -⟩:=Kit.za2 h5
  have HO:=hid h5
  have HR:=hid hr
  have HN:=hid hn
  have HM:=hid hm
  clear h0 h5 hr hn hm
  go_enter Tryz.func218,Tryz.ntmps218
  go_upto_region 1 with fail
  go_wp2_with (first
   | (at_builtin
      refine Kit.zaj _ rfl (.tmp 13) (.tmp 14) _ rfl (W+1) 5 i0 (.int .u8 0) 1 1 Tryz.underlying27 hi0 hi1 hi2 hi3 rfl (by decide) _ m (zao s.1) rfl HO.out _ _ n c (zao xs) rfl (by rw [bytesV_len,HN.out];omega) HR.out (Kit.zbh .u8 xs) (by unfold maxLen;omega) (by omega) (by have:=HWL.out;omega) ?_
      intro v3 W3 hown hg hat
      have HO3:Hid (W3.ownsRow (W+1) 5 1 v3 (m+n) (zao s.1 ++ zao xs)):=hid hown
      have HG3:=hid hg
      have HA3:=hid hat
      have hWn:some W≠(Value.slice Av m cv).ownBlock:=fun e=>by have:=Kit.zam HO.out W e.symm;omega
      have c0:W3.cell? ⟨W,0,none⟩=some (.slice Av m cv):=(hg.cell_far ⟨W,0,none⟩ HWL.out hWn).trans h1
      have c1:W3.cell? ⟨W,1,none⟩=some (.int .i64 0):=(hg.cell_far ⟨W,1,none⟩ HWL.out hWn).trans h2
      have f0:W3.frozen? ⟨W,0,none⟩=false:=(hg.frozen_far ⟨W,0,none⟩ HWL.out hWn).trans h3
      have f1:W3.frozen? ⟨W,1,none⟩=false:=(hg.frozen_far ⟨W,1,none⟩ HWL.out hWn).trans h4
      obtain⟨A3,c3,rfl, -, -, -⟩:=Kit.za2 HO3.out
      clear hown hg hat hWn h3 h4 h2))
  go_end0
  refine⟨rfl,⟨.slice A3 (m+n) c3,?_,?_,?_,?_,?_⟩,?_⟩
  ·exact World.cell?_setCell_same _ _ _ c0
  ·rw [World.cell?_setCell_other _ _ _ _ (by simp)];exact c1
  ·rw [World.frozen?_setCell];exact f0
  ·rw [World.frozen?_setCell];exact f1
  ·unfold Byts
   rw [List.length_append,bytesV_app,HN.out,HM.out]
   exact own_heap2 HO3.out fun g hg=>Below.heap_setCell _ _ _ g (fun e=>by have:=Kit.zam HO3.out g hg;simp at e;omega)
  ·have hb:Below N w W3:=(Below.refl N w).grown HG3.out (by have:=HWL.out;omega) (fun q hq=>by have:=Kit.zam HO.out q hq;omega)
   have hsame:∀ k,k < w.heap.size→¬ OW W w k→W3.heap[k]?=w.heap[k]?:=fun k hk ho=>HG3.out.block k hk (fun e=>ho (.inr ⟨_,h1,e.symm⟩))
   refine⟨hb.setCell (p:=⟨W,0,none⟩) hN _,fun k hk h1' ho=>(Below.heap_setCell _ _ _ k h1').trans (hsame k hk ho),fun k hk ho q=>?_,fun _ ho=>(ho (.inl rfl)).elim,fun _ ho=>(ho (.inl rfl)).elim⟩
   rcases wr_own (World.cell?_setCell_same _ _ _ c0) q with rfl | e
   ·exact ho (.inl rfl)
   ·rcases HA3.out with h | h
    ·exact ho (.inr ⟨_,h1,h ▸ e⟩)
    ·rw [h] at e;have:=Option.some.inj e;omega
 ·rw [if_neg h0]
  have h6:(s.2 == 0)=false:=by simpa using h0
  clear h5
  go_enter Tryz.func218,Tryz.ntmps218
  go_wp2_with fail
  go_end0
  exact⟨rfl,HH.out,Fr.refl _ _ _ _ _⟩
end CPk
end
section
namespace CBunM
open Kit Plain CSat CShape CTensor CConv CKind CGraph CBund
def MVal (A:Option Addr) (n c:Nat):List Value:=[.slice A n c]
theorem smod_yes {m1 m2:Bool} {l1 h1 l2 h2:Nat} (x y:Md) (p:PM) (hf:p.few) (w:World) (hx:MdIn m1 w l1 h1 x p) (hy:MdIn m2 w l2 h2 y p) (g1:h1≤w.heap.size) (g2:h2≤w.heap.size) :
  Calls Tryz.prog 30 #[.agg x.val.toArray,.agg y.val.toArray] w fun e w'=>e=.returned (.bool true)∧Below w.heap.size w w':=by
 obtain⟨A,n,c,X⟩:=x
 obtain⟨A',n',c',X'⟩:=y
 obtain⟨e1,_,hN,hE⟩:=hx
 obtain⟨f1,_,hN',hE'⟩:=hy
 dsimp only at e1 f1 hN hE hN' hE'
 obtain rfl:n=n':=e1.trans f1.symm
 obtain⟨q1,q2⟩:=hf
 obtain⟨W0,hW0⟩:∃ W0,W0=(w.alloc (.cells (MVal A n c).toArray 42)).alloc (.cells (MVal A' n c').toArray 42):=⟨_,rfl⟩
 have hsz0:W0.heap.size=w.heap.size+2:=by rw [hW0];simp
 have hb0:Below w.heap.size w W0:=by rw [hW0];exact ((Below.refl _ w).alloc (le_refl _) _).alloc (by simp) _
 have hbx:CBox 1 w.heap.size (MVal A n c) W0:=by
  rw [hW0]
  exact (CBox.new (MVal A n c) 42 w).below (B:=w.heap.size+1) (lt_succ_self _) ((Below.refl _ _).alloc (by simp) _)
 have hby:CBox 1 (w.heap.size+1) (MVal A' n c') W0:=by
  rw [hW0]
  have:=CBox.new (MVal A' n c') 42 (w.alloc (.cells (MVal A n c).toArray 42))
  rwa [World.size_alloc] at this
 have hcells:∀ wS,Below W0.heap.size W0 wS→wS.cell? ⟨w.heap.size,0,none⟩=some (.slice A n c)∧wS.cell? ⟨w.heap.size+1,0,none⟩=some (.slice A' n c'):=fun wS h =>
  ⟨(hbx.below (by omega) h).at 0 _ rfl,(hby.below (by omega) h).at 0 _ rfl⟩
 have a0:W0.cell? ⟨w.heap.size,0,none⟩=some (.slice A n c):=hbx.at 0 _ rfl
 have d0:W0.cell? ⟨w.heap.size+1,0,none⟩=some (.slice A' n c'):=hby.at 0 _ rfl
 have HSZ0:=hid hsz0
 have HB0:=hid hb0
 have HC:=hid hcells
 have HN:=hid hN
 have HN':=hid hN'
 have HE:=hid hE
 have HE':=hid hE'
 have HQ:=hid q2
 have hn8:n≤8:=by rw [e1];exact q1
 have HNP:=hid e1
 clear hbx hby hcells hsz0 hb0 hN hN' hE hE' q1 q2 e1 f1
 go_enter Tryz.func30,Tryz.ntmps30
 go_upto_region 1 with fail
 simp only [MVal] at hW0
 simp only [Md.val]
 rw [← hW0]
 clear hW0
 go_wp2_with fail
 go_loopw [5] (fun v wr=>∃ i:Nat,i≤n∧v=.int .i64 i∧Hid (Below W0.heap.size W0 wr)) (fun v _=>n - (intOf v).toNat)
 case atStart=>exact⟨0,Nat.zero_le _,rfl,hid (Below.refl _ _)⟩
 case round =>
  obtain⟨i,hii,rfl,HB⟩:=hrel
  have hc:=HC.out wr HB.out
  obtain⟨a0,d0⟩:=hc
  have HBW:=hid (HB0.out.trans (HB.out.mono (by have:=HSZ0.out;omega)))
  by_cases hlt:i < n
  ·have k0:(0:Int)≤(i:Int):=by omega
   have k1:(i:Int) < (n:Int):=by omega
   have hk1:Kept l1 h1 w wr:=Kept.of_below HBW.out g1
   have hk2:Kept l2 h2 w wr:=Kept.of_below HBW.out g2
   obtain⟨ga,oa,rfl,u1,u2,hra,_⟩:=(HN.out.keep hk1) i hlt
   obtain⟨gb,ob,rfl,v1,v2,hrb,_⟩:=(HN'.out.keep hk2) i hlt
   have hr:∀ wS,Below wr.heap.size wr wS→wS.rangeAt ga (oa+i * 5) (X i).val∧wS.rangeAt gb (ob+i * 5) (X' i).val:=fun wS h =>
    ⟨fun q v hq=>(h.cell (p:=⟨ga,_,none⟩) (Nat.lt_of_lt_of_le u2 (Nat.le_trans g1 HBW.out.size))).trans (hra q v hq),fun q v hq=>(h.cell (p:=⟨gb,_,none⟩) (Nat.lt_of_lt_of_le v2 (Nat.le_trans g2 HBW.out.size))).trans (hrb q v hq)⟩
   have HR:=hid hr
   have HCW:Hid (∀ wS,Below wr.heap.size wr wS→wS.cell? ⟨w.heap.size,0,none⟩=some (.slice (some ⟨ga,oa,none⟩) n c)∧wS.cell? ⟨w.heap.size+1,0,none⟩=some (.slice (some ⟨gb,ob,none⟩) n c')):=hid (fun wS h=>HC.out wS (HB.out.trans (h.mono HB.out.size)))
   have HCL:Hid (∀ wS,Below wr.heap.size wr wS→Calls Tryz.prog 55 #[.agg (X i).val.toArray,.agg (X' i).val.toArray] wS fun e w'=>e=.returned (.bool true)∧Below wS.heap.size wS w'):=hid (fun wS h =>
    sblk_yes (X i) (X' i) (p.K i) (HQ.out i (by rw [← HNP.out];exact hlt)) wS (((HE.out i hlt).keep hk1).keep (Kept.of_below h (Nat.le_trans g1 HBW.out.size))) (((HE'.out i hlt).keep hk2).keep (Kept.of_below h (Nat.le_trans g2 HBW.out.size))) (Nat.le_trans (Nat.le_trans g1 HBW.out.size) h.size) (Nat.le_trans (Nat.le_trans g2 HBW.out.size) h.size))
   clear hk1 hk2 hra hrb hr u1 u2 v1 v2
   go_upto_region 6 with fail
   refine wp_region_held_drew (S:=fun wS=>Below wr.heap.size wr wS) (by kernel_rfl) (Below.refl _ _).drew (fun hHeld=>?_)
   generalize hw3:wr.drew=w3 at hHeld
   clear hw3
   refine Tk.x 0 rfl ?_
   try simp only [Tk.put]
   refine Tk.y 1 (v:=.slice (some ⟨ga,oa,none⟩) n c) rfl ?_ ?_
   ·intro wS hSw
    obtain⟨q0,q1⟩:=HCW.out wS hSw
    first | (go_simp;done) | (go_simp;with_reducible rfl)
   try simp only [Tk.put]
   refine Tk.x 2 rfl ?_
   try simp only [Tk.put]
   refine Tk.x 3 rfl ?_
   try simp only [Tk.put]
   refine Tk.t 4 (v:=.agg (X i).val.toArray) rfl (yieldsIf_load_mid (by rfl) 49 _ rfl ga (oa+i * 5) (by rfl) (X i).val _ (fun wS h=>(HR.out wS h).1) Tryz.underlying49 rfl (by kernel_rfl)) (by assumption) ?_
   try simp only [Tk.put]
   refine Tk.x 5 rfl ?_
   try simp only [Tk.put]
   refine Tk.y 6 (v:=.slice (some ⟨gb,ob,none⟩) n c') rfl ?_ ?_
   ·intro wS hSw
    obtain⟨q0,q1⟩:=HCW.out wS hSw
    first | (go_simp;done) | (go_simp;with_reducible rfl)
   try simp only [Tk.put]
   refine Tk.x 7 rfl ?_
   try simp only [Tk.put]
   refine Tk.x 8 rfl ?_
   try simp only [Tk.put]
   refine Tk.t 9 (v:=.agg (X' i).val.toArray) rfl (yieldsIf_load_mid (by rfl) 49 _ rfl gb (ob+i * 5) (by rfl) (X' i).val _ (fun wS h=>(HR.out wS h).2) Tryz.underlying49 rfl (by kernel_rfl)) (by assumption) ?_
   try simp only [Tk.put]
   refine Tk.s 10 rfl (fun Kq hK=>?_)
   go_simp
   go_at_call 55
   refine (HCL.out _ hHeld).mono ?_
   rintro e w4 ⟨rfl,hb⟩
   have hS2:=hHeld.trans (hb.mono hHeld.size)
   clear hHeld hb
   dsimp only
   refine hK.out _ _ hS2 (fun hHeld=>?_)
   clear hK Kq hS2
   try simp only [Tk.put]
   refine Tk.x 11 rfl ?_
   try simp only [Tk.put]
   refine wpAnyH_done (by kernel_rfl) ?_ _
   have HH9:=hid hHeld
   clear hHeld a0 d0
   go_wp2_with fail
   go_roundw
   case rel=>exact⟨i+1,by omega,by go_num,hid (HB.out.trans (HH9.out.mono HB.out.size))⟩
   case measure=>simp [intOf];omega
  ·obtain rfl:i=n:=by omega
   go_wp2_with fail
   go_ret
   exact⟨rfl,HBW.out⟩
end CBunM
end
end Go.Proofs.YtfgdfignoakkaaaGreatDoor
