/- -/
import Derived.Test.YtfgdfignoakkaaaGreatDoorGBT44
open Go.Lib (hid)
open Nat (le_refl lt_of_succ_lt lt_succ_self)
set_option linter.unusedVariables false
set_option linter.unusedSimpArgs false
set_option maxRecDepth 100000
set_option maxHeartbeats 16000000
namespace Go.Proofs.YtfgdfignoakkaaaGreatDoor
namespace CBunM
end CBunM
namespace CConv
end CConv
namespace CCost
end CCost
namespace CFix
end CFix
namespace CGraph
end CGraph
namespace CGuard
end CGuard
namespace CJoin
end CJoin
namespace CKind
end CKind
namespace CLeb
end CLeb
namespace COctet
end COctet
namespace CPack
end CPack
namespace CSat
end CSat
namespace CShape
end CShape
namespace CSpan
end CSpan
namespace CTensor
end CTensor
namespace Kit
end Kit
open Go Go.ChangeShapes Go.WideShapes Go.ChangeAt Go.RowKit Go.Deep
section
namespace CBunM
open Kit Plain CSat CShape CTensor CConv CKind CGraph CBund CrcNum CCrc
def le4 (n:Int):List Int:=[n % 256,n / 256 % 256,n / 65536 % 256,n / 16777216]
theorem bput32_to (n:Int) (h0:0≤n) (h1:n≤4294967295) (w:World) :
  Calls Tryz.prog 31 #[.int .u32 n] w fun e w'=>e=.returned (.slice (some ⟨w.heap.size,0,none⟩) 4 4)∧w'=w.alloc (.cells ((le4 n).map (.int .u8)).toArray 5):=by
 go_enter Tryz.func31,Tryz.ntmps31
 go_wp2
 go_ret
 exact⟨rfl,rfl⟩
structure Pt where
 A:Option Addr
 n:Nat
 c:Nat
 z:List Int
def Pt.val (p:Pt):List Value:=[.slice p.A p.n p.c]
def catP (L:Nat→Pt):Nat→List Int
 | 0=>[]
 | k+1=>catP L k ++ (L k).z
theorem binfo_u8:(Tryz.prog.info? 5).map (fun i=>(i.zero,i.size,i.bytes))=some (some (.int .u8 0),1,1):=by kernel_rfl
theorem catP_le (L:Nat→Pt) {k q:Nat} (h:k≤q):(catP L k).length≤(catP L q).length:=by
 induction q with
 | zero=>rw [show k=0 by omega];exact le_refl _
 | succ q ih =>
   rcases (show k≤q∨k=q+1 by omega) with h2 | rfl
   ·rw [catP,List.length_append];have:=ih h2;omega
   ·exact le_refl _
theorem join_to (A:Option Addr) (L:Nat→Pt) (q c:Nat) (hq:q≤1000000) {m:Bool} {lo hi:Nat} (w:World) (hw:hi≤w.heap.size) (hA:za9 1 Pt.val m w lo hi A q L) (hL:∀ k,k < q→(L k).z.length=(L k).n∧Rd w hi (L k).A ((L k).z.map (.int .u8))) (hT:(catP L q).length≤4000000000) :
  Calls Tryz.prog 24 #[.slice A q c] w (OwnX w (catP L q).length ((catP L q).map (.int .u8))):=by
 have HA:=hid hA
 have HL:=hid hL
 have HT:=hid hT
 obtain⟨i0,hi0,hi1,hi2,hi3⟩:=kparts binfo_u8
 clear hA hL hT
 go_enter Tryz.func24,Tryz.ntmps24
 go_wp2_with fail
 go_loopw [3,8] (fun v u wr=>∃ k:Nat,k≤q∧u=.int .i64 k∧Hid (wr.ownsRow w.heap.size 5 1 v (catP L k).length ((catP L k).map (.int .u8)))∧Hid (Below w.heap.size w wr)) (fun _ u _=>q - (intOf u).toNat)
 case atStart=>exact⟨0,Nat.zero_le _,rfl,hid (by simpa [catP] using World.ownsRow_nil w w.heap.size 5 1),hid (Below.refl _ _)⟩
 case round =>
  obtain⟨k,hk,rfl,HO,HB⟩:=hrel
  by_cases hlt:k < q
  ·obtain⟨b,o,rfl,b1,b2,hra,_⟩:=(HA.out.keep (Kept.of_below HB.out hw)) k hlt
   obtain⟨hl1,hl2⟩:=HL.out k hlt
   have c0:wr.cell? ⟨b,o+k,none⟩=some (.slice (L k).A (L k).n (L k).c):=by
    have:=hra 0 _ rfl
    simpa using this
   have HR:=hid (hl2.below (HB.out.mono hw))
   have hle:=catP_le L (show k+1≤q by omega)
   rw [catP,List.length_append] at hle
   have hsum:(catP L k).length+(L k).n≤4000000000:=by have:=HT.out;omega
   have k0:(0:Int)≤(k:Int):=by omega
   have k1:(k:Int) < (q:Int):=by omega
   have hlen2:((L k).z.map (Value.int .u8)).length=(L k).n * 1:=by simp [hl1]
   have HL2:=hid hlen2
   have HL1:=hid hl1
   have HW:=hid HB.out.size
   clear hra hl2 hle hl1 hlen2
   go_wp2_with (at_builtin;refine Kit.zaj _ rfl (.tmp 12) (.tmp 13) _ rfl w.heap.size 5 i0 (.int .u8 0) 1 1 Tryz.underlying27 hi0 hi1 hi2 hi3 rfl (by decide) _ _ _ rfl HO.out hi _ _ _ _ rfl HL2.out HR.out (Kit.zbh .u8 _) (by unfold maxLen;omega) (by omega) HW.out ?_;intro v3 w3 hown3 hg3 hat3;have HB3:=hid (HB.out.grown hg3 HW.out (fun q hq=>Kit.zam HO.out q hq));have HO3:Hid (w3.ownsRow w.heap.size 5 1 v3 (catP L (k+1)).length ((catP L (k+1)).map (.int .u8))):=hid (by rw [catP,List.length_append,List.map_append,HL1.out];exact hown3);clear hown3 hg3 hat3)
   go_roundw
   case rel=>exact⟨k+1,by omega,by go_num,HO3,HB3⟩
   case measure=>simp [intOf];omega
  ·obtain rfl:k=q:=by omega
   go_wp2_with fail
   go_ret
   exact own_x HO.out HB.out
def sealP (A:Option Addr) (n c:Nat) (zs:List Int) (g:Nat) (ds:List Int) (k:Nat):Pt:=if k=0 then ⟨A,n,c,zs⟩ else ⟨some ⟨g,0,none⟩,4,4,ds⟩
theorem seal_parts (A:Option Addr) (n c:Nat) (zs ds:List Int) (hn:zs.length=n) (hd:ds.length=4) (w:World) {B:Nat} (hB:B≤w.heap.size) (hr:Rd w B A (zs.map (.int .u8))) (T T2:TypeId) :
  w.heap.size+2≤((w.alloc (.cells (ds.map (.int .u8)).toArray T)).alloc (.cells #[.slice A n c,.slice (some ⟨w.heap.size,0,none⟩) 4 4] T2)).heap.size ∧
  za9 1 Pt.val false ((w.alloc (.cells (ds.map (.int .u8)).toArray T)).alloc (.cells #[.slice A n c,.slice (some ⟨w.heap.size,0,none⟩) 4 4] T2)) 0 (w.heap.size+2) (some ⟨w.heap.size+1,0,none⟩) 2 (sealP A n c zs w.heap.size ds) ∧
  ∀ k,k < 2→(sealP A n c zs w.heap.size ds k).z.length=(sealP A n c zs w.heap.size ds k).n∧Rd ((w.alloc (.cells (ds.map (.int .u8)).toArray T)).alloc (.cells #[.slice A n c,.slice (some ⟨w.heap.size,0,none⟩) 4 4] T2)) (w.heap.size+2) (sealP A n c zs w.heap.size ds k).A ((sealP A n c zs w.heap.size ds k).z.map (.int .u8)):=by
 refine⟨by simp,fun j hj=>⟨w.heap.size+1,0,rfl,Nat.zero_le _,by omega,fun q v hq=>?_,fun e=>by cases e⟩,fun k hk=>?_⟩
 ·have hc:∀ i,((w.alloc (.cells (ds.map (.int .u8)).toArray T)).alloc (.cells #[.slice A n c,.slice (some ⟨w.heap.size,0,none⟩) 4 4] T2)).cell? ⟨w.heap.size+1,i,none⟩=(#[.slice A n c,.slice (some ⟨w.heap.size,0,none⟩) 4 4]:Array Value)[i]?:=fun i=>by
   have:=Kit.zab (w.alloc (.cells (ds.map (.int .u8)).toArray T)) #[.slice A n c,.slice (some ⟨w.heap.size,0,none⟩) 4 4] T2 i
   rwa [World.size_alloc] at this
  rw [hc]
  have hq0:q=0:=by
   have:=(List.getElem?_eq_some_iff.1 hq).1
   simp [Pt.val] at this
   exact this
  subst hq0
  rcases (show j=0∨j=1 by omega) with rfl | rfl
  ·exact hq
  ·exact hq
 ·have hb:Below w.heap.size w (w.alloc (.cells (ds.map (.int .u8)).toArray T)):=(Below.refl _ w).alloc (le_refl _) _
  rcases (show k=0∨k=1 by omega) with rfl | rfl
  ·exact⟨hn,((hr.below (hb.mono hB)).alloc (by simp;omega) _).more (by omega)⟩
  ·exact⟨hd,((Rd.new w (ds.map (.int .u8)) T (B:=w.heap.size+1) (lt_succ_self _)).alloc (by simp) _).more (by omega)⟩
def sealZ (zs:List Int):List Int:=zs ++ le4 (toI (crcOf zs))
theorem sealZ_len (zs:List Int):(sealZ zs).length=zs.length+4:=by simp [sealZ,le4]
theorem seal_to (A:Option Addr) (zs:List Int) (n c:Nat) (hn:zs.length=n) (hl:n≤3999000000) (hz:U8s zs) (w:World) (hT:za5 w) {B:Nat} (hB:B≤w.heap.size) (hr:Kit.Rd w B A (zs.map (.int .u8))) :
  Calls Tryz.prog 15 #[.slice A n c] w (OwnX w (n+4) ((sealZ zs).map (.int .u8))):=by
 have hs:=toI_bd (crcOf zs)
 have HO:=hid (of_n A zs n c hn (by omega) hz w hT hr)
 have HR:=hid hr
 obtain⟨s,hse⟩:∃ s,toI (crcOf zs)=s:=⟨_,rfl⟩
 have hZ:sealZ zs=zs ++ le4 s:=by rw [sealZ,hse]
 have hlen:(sealZ zs).length=n+4:=by rw [sealZ_len,hn]
 rw [hse] at hs HO
 rw [hZ] at hlen ⊢
 obtain⟨d4,hd4⟩:∃ d4,le4 s=d4:=⟨_,rfl⟩
 have HP:=hid (fun wx:World=>bput32_to s hs.1 hs.2 wx)
 rw [hd4] at HP hlen ⊢
 have hd4l:d4.length=4:=by rw [← hd4];rfl
 have HN:=hid hn
 have HLN:=hid hlen
 have HD4:=hid hd4l
 clear hr hn hs hse hZ hlen hd4 hd4l hz hT
 go_enter Tryz.func15,Tryz.ntmps15
 go_wp2_with (first
  | (go_at_call 32
     with_reducible refine HO.out.mono ?_
     rintro e w1 ⟨rfl,rfl⟩)
  | (go_at_call 31
     with_reducible refine (HP.out _).mono ?_
     rintro e w2 ⟨rfl,rfl⟩)
  | (go_at_call 24
     obtain⟨p1,p2,p3⟩:=seal_parts A n c zs d4 HN.out HD4.out w hB HR.out 5 27
     have e2:catP (sealP A n c zs w.heap.size d4) 2=zs ++ d4:=by simp [catP,sealP]
     refine (join_to _ (sealP A n c zs w.heap.size d4) 2 2 (by decide) _ p1 p2 p3 (by rw [e2,HLN.out];omega)).mono ?_
     rintro e w3 hown
     rw [e2,HLN.out] at hown
     obtain⟨A3,c3,rfl,h1,h2,h3,h4⟩:=hown
     have H1:=hid h1
     have H2:=hid h2
     have H3:=hid h3
     have H4:=hid h4
     clear p1 p2 p3 h1 h2 h3 h4))
 go_ret
 have hbb:Below w.heap.size w w3:=(((Below.refl _ w).alloc (le_refl _) _).alloc (by simp) _).trans (H4.out.mono (by simp;omega))
 exact⟨A3,c3,rfl,H1.out,H2.out,H3.out.more (by simp;omega) (le_refl _),hbb⟩
end CBunM
end
section
namespace CPkI
open Go
open LebNum CLeb COctet CKind CPack CPk CPkW CBund
def By8 (zs:List Int):Prop:=∀ z∈zs,0≤z∧z≤255
theorem By8.app {a b:List Int} (h:By8 a) (k:By8 b):By8 (a ++ b):=fun z hz=>by
 rcases List.mem_append.1 hz with q | q
 ·exact h z q
 ·exact k z q
theorem By8.pc {b:Bool} {l:List Int} (h:By8 l):By8 (pc b l):=by
 cases b
 ·intro z hz;simp [CPack.pc] at hz
 ·exact h
theorem za8 (n:Int):By8 (digZ n):=by
 have:∀ (k n:Nat),n≤k→By8 (digN n):=by
  intro k
  induction k with
  | zero=>intro n hn z hz;rw [digN,dif_pos (by omega)] at hz;simp at hz;omega
  | succ k ih =>
    intro n hn z hz
    rw [digN] at hz
    by_cases h:n < 128
    ·rw [dif_pos h] at hz;simp at hz;omega
    ·rw [dif_neg h] at hz
     rcases List.mem_cons.1 hz with rfl | hz
     ·omega
     ·exact ih (n / 128) (by omega) z hz
 exact this n.toNat n.toNat (le_refl _)
theorem by8_one (z:Int):By8 [z % 256]:=fun y hy=>by
 simp at hy
 subst hy
 omega
theorem by8_small (zs:List Int):By8 (za6 zs):=fun y hy=>by
 simp only [za6,List.mem_map] at hy
 obtain⟨z,_,rfl⟩:=hy
 omega
theorem by8_enc (zs:List Int):By8 (encZ zs):=fun y hy=>by
 simp only [encZ,List.mem_flatMap] at hy
 obtain⟨z,_,h⟩:=hy
 exact za8 _ y h
theorem by8_fld (x:Nd) (ws bs:List Int):By8 (fldBy x ws bs):=by
 unfold fldBy
 exact ((za8 _).app (za8 _)).app ((za8 _).pc.app ((za8 _).pc.app ((za8 _).pc.app ((za8 _).pc.app ((za8 _).pc.app ((by8_one _).pc.app ((by8_one _).pc.app (((za8 _).app (by8_small _)).pc.app (((za8 _).app (by8_enc _)).pc.app (((za8 _).app (za8 _)).pc.app ((by8_one _).pc.app (((za8 _).app (za8 _)).pc.app ((by8_one _).pc.app ((by8_one _).pc.app (by8_one _).pc))))))))))))))
def Gd (s:WS):Prop:=s.2=0→By8 s.1
theorem Gd.add {s:WS} {xs:List Int} (h:Gd s) (hx:By8 xs):Gd (addW s xs):=by
 intro h0
 unfold addW at h0 ⊢
 dsimp only at h0 ⊢
 rw [if_pos h0]
 exact (h h0).app hx
theorem Gd.fail {s:WS} {e:Int} (h:Gd s):Gd (failW s e):=by
 intro h0
 unfold failW at h0 ⊢
 dsimp only at h0 ⊢
 by_cases q:s.2=0
 ·exact h q
 ·rw [if_neg q] at h0;exact absurd h0 q
theorem Gd.num {s:WS} {v most:Int} (h:Gd s):Gd (numW s v most):=by
 unfold numW
 split
 ·exact h.fail
 ·exact h.add (za8 _)
theorem Gd.siz {s:WS} {v most:Int} (h:Gd s):Gd (sizW s v most).2:=by
 unfold sizW
 split
 ·exact h.fail
 ·exact h.num
theorem Gd.wts {s:WS} {l:List Int} (h:Gd s):Gd (wtsW s l):=by
 unfold wtsW
 split
 ·exact h.num.add (by8_small _)
 ·exact h.num
theorem Gd.bis {s:WS} {l:List Int} (h:Gd s):Gd (bisW s l):=by
 unfold bisW
 split
 ·exact h.num.add (by8_enc _)
 ·exact h.num
theorem Gd.exit {s:WS} {ex:Bool} {nW nB:Nat} {D:Int} (h:Gd s):Gd (exitW s ex nW nB D):=by
 unfold exitW
 refine Gd.num ?_
 split
 ·exact h
 ·split
  ·exact h.fail
  ·exact h
theorem Gd.fld {p:PS} (h:Gd p.1):Gd (fldF p).1:=by
 intro h0
 have a:=fld_adds p
 by_cases q:p.1.2=0
 ·by_cases ok:fldOk p.2.1 p.2.2.1 p.2.2.2
  ·rw [a.yes q ok]
   exact (h q).app (by8_fld _ _ _)
  ·rw [a.no q ok] at h0
   exact absurd h0 (by decide)
 ·rw [a.bad q] at h0
  exact absurd h0 q
theorem Gd.node {p:PS} (h:Gd p.1):Gd (nodeF p).1:=by
 unfold nodeF
 exact Gd.fld h.fail
theorem Gd.nodes {s:WS} {P:Nat→NdL} (h:Gd s) (k:Nat):Gd (nodesW s P k):=by
 induction k with
 | zero=>exact h
 | succ k ih=>exact Gd.node ih
theorem Gd.blk {s:WS} {p:BkL} (h:Gd s):Gd (blkW s p):=by
 unfold blkW blkX blkI
 split
 ·exact ((h.siz.nodes _).exit.wts.bis).num
 ·exact (h.siz.nodes _).exit
theorem Gd.blks {s:WS} {P:Nat→BkL} (h:Gd s) (k:Nat):Gd (blksW s P k):=by
 induction k with
 | zero=>exact h
 | succ k ih=>exact Gd.blk ih
end CPkI
end
section
namespace CPkI
open LebNum CLeb COctet CKind CPack CPk CPkW CBunM CBund
def modW (s:WS) (n:Nat) (P:Nat→BkL):WS:=blksW (sizW s n 6).2 P (sizB n)
theorem wmodel_to (N W L nb:Nat) (s:WS) (A:Option Addr) (n c:Nat) (hn:n≤1000) (P:Nat→BkL) (w:World) (hM:1 < N) (hT:zad w) (hNW:N≤W) (hN:N≤w.heap.size) (hNb:N≤nb) (hL:L≤50000000) (hl:s.1.length≤L) (hA:Kit.Rd w N A (flatE bkV P n)) (hP:∀ j,j < n→BkP N w (P j)) (hc:w.cell? ⟨nb,0,none⟩=some (.slice A n c)) (hf:w.frozen? ⟨nb,0,none⟩=false) (hlt:nb < w.heap.size) (ho:¬ OW W w nb) (h:WrAt W s w) :
  Calls Tryz.prog 47 #[.iface 134 (.pointer (some ⟨W,0,none⟩)),.pointer (some ⟨nb,0,none⟩)] w fun e w'=>e=.returned (.tuple #[])∧WrAt W (modW s n P) w'∧(modW s n P).1.length≤L+250000000∧Below N w w':=by
 have CI:=hid (witemsB_to N W L s A n c hn P w hM hT hNW hN hL hl hA hP h)
 obtain⟨t,ht⟩:∃ t,modW s n P=t:=⟨_,rfl⟩
 rw [show blksW (sizW s n 6).2 P (sizB n)=t from ht] at CI
 rw [ht]
 have HLT:=hid hlt
 have HO:=hid ho
 have HF:=hid hf
 have HNB:=hid hNb
 clear hM hT hNW hN hL hl hA hP h ht ho hlt hf hNb
 unfold ItemsN at CI
 go_enter Tryz.func47,Tryz.ntmps47
 go_wp2_with (first
  | (go_at_call 72
     refine CI.out.mono ?_
     rintro e w1 ⟨A1,c1,rfl,h1,h2,h3⟩
     have H1:=hid h1
     have HS1:=hid h2
     have F1:=hid h3
     have d0:w1.cell? ⟨nb,0,none⟩=some (.slice A n c):=((h3 nb (fun _=>False)).cell HLT.out HO.out 0 id).trans hc
     have e0:w1.frozen? ⟨nb,0,none⟩=false:=((h3 nb (fun _=>False)).froz HLT.out HO.out 0).trans HF.out
     clear h1 h2 h3))
 go_end0
 have ho1:¬ OW W w1 nb:=(F1.out nb (fun _=>False)).own nb HLT.out HO.out
 exact⟨rfl,H1.out.keep fun k hk=>Below.heap_setCell _ _ _ k (fun e=>ho1 (by rw [show k=nb from e] at hk;exact hk)),HS1.out,(F1.out nb (fun _=>False)).below.setCell (p:=⟨nb,0,none⟩) HNB.out _⟩
def MoW (w:World) (e:Ending) (w':World):Prop :=
 ∃ (A:Option Addr) (n c:Nat) (z:List Int) (er:Int),e=.returned (.tuple #[.slice A n c,.int .i64 er])∧(er=0→z.length=n∧By8 z∧z.length≤300000000∧RdX false w' w.heap.size w'.heap.size A (z.map (.int .u8)))∧Below w.heap.size w w'
theorem wput_to (A:Option Addr) (n c:Nat) (hn:n≤1000) (P:Nat→BkL) (w:World) (hT:zad w) (hA:Kit.Rd w w.heap.size A (flatE bkV P n)) (hP:∀ j,j < n→BkP w.heap.size w (P j)) :
  Calls Tryz.prog 46 #[.agg #[.slice A n c],.func (.func 47) #[] #[]] w (MoW w):=by
 have b1:Below w.heap.size w (w.alloc (.cells #[.slice A n c] 42)):=(Below.refl _ _).alloc (le_refl _) _
 have b2:Below (w.heap.size+1) (w.alloc (.cells #[.slice A n c] 42)) ((w.alloc (.cells #[.slice A n c] 42)).alloc (.cells #[.slice none 0 0,.int .i64 0] 133)):=(Below.refl _ _).alloc (by simp) _
 have hs:(w.alloc (.cells #[.slice A n c] 42)).heap.size=w.heap.size+1:=by simp
 have hc:((w.alloc (.cells #[.slice A n c] 42)).alloc (.cells #[.slice none 0 0,.int .i64 0] 133)).cell? ⟨w.heap.size,0,none⟩=some (.slice A n c):=(b2.cell (p:=⟨w.heap.size,0,none⟩) (lt_succ_self _)).trans (Kit.zab _ _ _ 0)
 have hf:((w.alloc (.cells #[.slice A n c] 42)).alloc (.cells #[.slice none 0 0,.int .i64 0] 133)).frozen? ⟨w.heap.size,0,none⟩=false:=(b2.frozen (p:=⟨w.heap.size,0,none⟩) (lt_succ_self _)).trans (World.frozen?_alloc_at _ _ _ _ rfl)
 have hWr:WrAt (w.heap.size+1) ([],0) ((w.alloc (.cells #[.slice A n c] 42)).alloc (.cells #[.slice none 0 0,.int .i64 0] 133)):=by
  have c0:=Kit.zab (w.alloc (.cells #[.slice A n c] 42)) #[.slice none 0 0,.int .i64 0] 133 0
  have c1:=Kit.zab (w.alloc (.cells #[.slice A n c] 42)) #[.slice none 0 0,.int .i64 0] 133 1
  rw [hs] at c0 c1
  have f0:((w.alloc (.cells #[.slice A n c] 42)).alloc (.cells #[.slice none 0 0,.int .i64 0] 133)).frozen? ⟨(w.alloc (.cells #[.slice A n c] 42)).heap.size,0,none⟩=false:=World.frozen?_alloc_at _ _ _ _ rfl
  have f1:((w.alloc (.cells #[.slice A n c] 42)).alloc (.cells #[.slice none 0 0,.int .i64 0] 133)).frozen? ⟨(w.alloc (.cells #[.slice A n c] 42)).heap.size,1,none⟩=false:=World.frozen?_alloc_at _ _ _ _ rfl
  rw [hs] at f0 f1
  exact⟨.slice none 0 0,c0,c1,f0,f1,byts_nil _ _⟩
 have hsz:((w.alloc (.cells #[.slice A n c] 42)).alloc (.cells #[.slice none 0 0,.int .i64 0] 133)).heap.size=w.heap.size+2:=by simp
 have hno:¬ OW (w.heap.size+1) ((w.alloc (.cells #[.slice A n c] 42)).alloc (.cells #[.slice none 0 0,.int .i64 0] 133)) w.heap.size:=fun q=>by have:=ow_ge hWr q;omega
 have hb:Below w.heap.size w ((w.alloc (.cells #[.slice A n c] 42)).alloc (.cells #[.slice none 0 0,.int .i64 0] 133)):=b1.trans (b2.mono (Nat.le_succ _))
 have CM:=hid (wmodel_to w.heap.size (w.heap.size+1) 0 w.heap.size ([],0) A n c hn P _ hT.size (hT.grown hb) (Nat.le_succ _) (by rw [hsz];omega) (le_refl _) (by omega) (le_refl _) (hA.below hb) (fun j hj=>(hP j hj).below hb) hc hf (by rw [hsz];omega) hno hWr)
 have hg:Gd (modW ([],0) n P):=Gd.blks (Gd.siz (fun _ z hz=>by simp at hz)) _
 obtain⟨t,ht⟩:∃ t,modW ([],0) n P=t:=⟨_,rfl⟩
 rw [ht] at CM hg
 have HG:=hid hg
 have HB:=hid hb
 clear b1 b2 hs hc hf hWr hsz hno hb hg ht hA hP hT
 go_enter Tryz.func46,Tryz.ntmps46
 go_upto_region 2 with fail
 generalize (w.alloc (.cells #[.slice A n c] 42)).alloc (.cells #[.slice none 0 0,.int .i64 0] 133)=W0 at HB CM ⊢
 go_upto_region 3 with (go_at_call 47;(refine CM.out.mono ?_);rintro e w1 ⟨rfl,h1,h2,h3⟩;(have HK1:=hid h1);(have HL1:=hid h2);(have HB1:=hid (HB.out.trans h3));clear h1 h2 h3)
 obtain⟨v,c0,c1,f0,f1,ho⟩:=HK1.out
 obtain⟨tb,te⟩:=t
 dsimp only at c1 ho
 by_cases h0:te=0
 ·subst h0
  have HO:=hid ho
  clear ho
  obtain⟨A2,c2,rfl, -, -,hrd⟩:=Kit.za2 HO.out
  have HR:=hid ((RdX.of_own HO.out).weak.more (lo':=w.heap.size) (hi':=w1.heap.size) (by omega) (le_refl _))
  clear hrd
  go_wp2_with fail
  go_ret2
  exact⟨A2,tb.length,c2,tb,0,rfl,fun _=>⟨rfl,HG.out rfl,by have:=HL1.out;omega,HR.out⟩,HB1.out⟩
 ·have b1:(te != 0)=true:=by simpa using h0
  have H0:=hid h0
  clear ho h0
  go_upto_region 4 with fail
  go_quiet (fail)
  go_wp2_with fail
  go_ret2
  exact⟨none,0,0,[],te,rfl,fun e=>absurd e H0.out,Kit.below_drewN HB1.out _⟩
theorem cmodel_to (m:Md) (hn:m.n≤1000) (P:Nat→BkL) (w:World) (hT:zad w) (hA:Kit.Rd w w.heap.size m.A (flatE bkV P m.n)) (hP:∀ j,j < m.n→BkP w.heap.size w (P j)) :
  Calls Tryz.prog 23 #[.agg m.val.toArray] w (MoW w):=by
 obtain⟨A,n,c,K⟩:=m
 dsimp only at hn hA hP
 have b1:Below w.heap.size w (w.alloc (.cells #[.slice A n c] 42)):=(Below.refl _ _).alloc (le_refl _) _
 have HB:=hid b1
 have CP:=hid (wput_to A n c hn P (w.alloc (.cells #[.slice A n c] 42)) (hT.grown b1) ((hA.below b1).more b1.size) (fun j hj=>by
  have h:=(hP j hj).below b1
  exact⟨h.n,h.nodes.more b1.size,⟨h.each.len,h.each.bd,h.each.ws,h.each.bs,fun q hq=>(h.each.rw q hq).more b1.size,fun q hq=>(h.each.rb q hq).more b1.size⟩,h.len,h.ws,h.bs,h.rw.more b1.size,h.rb.more b1.size,h.D⟩))
 have c0:(w.alloc (.cells #[.slice A n c] 42)).cell? ⟨w.heap.size,0,none⟩=some (.slice A n c):=Kit.zab _ _ _ 0
 simp only [Md.val]
 clear b1 hn hA hP hT
 unfold MoW at CP
 go_enter Tryz.func23,Tryz.ntmps23
 go_upto_region 1 with fail
 generalize w.alloc (.cells #[.slice A n c] 42)=W0 at HB CP c0 ⊢
 go_wp2_with (go_at_call 46;(refine CP.out.mono ?_);rintro e w1 ⟨A1,n1,c1,z,er,rfl,h1,h2⟩;(have H1:=hid h1);(have HB1:=hid (HB.out.trans (h2.mono HB.out.size)));clear h1 h2)
 go_ret2
 exact⟨A1,n1,c1,z,er,rfl,fun e=>⟨(H1.out e).1,(H1.out e).2.1,(H1.out e).2.2.1,(H1.out e).2.2.2.more HB.out.size (le_refl _)⟩,HB1.out⟩
end CPkI
end
section
namespace CValid
open Plain CSat CFix CShape CTensor CConv CSpan CKind CGraph CJoin CGuard CBund CCost CVerd
structure BkRdy (w:World) (b:Bk) (s:Ls):Prop where
 nodes:NodesAt w w.heap.size b.A b.n b.X
 ls:LsOk w w.heap.size b s
 few:FewK b
theorem BkRdy.below {w w':World} {b:Bk} {s:Ls} (h:BkRdy w b s) (hb:Below w.heap.size w w'):BkRdy w' b s :=
 ⟨(h.nodes.below hb).more hb.size,(h.ls.below hb).more hb.size,h.few⟩
theorem blk_a1 {b:Bk} {s:Ls} {t0:Tri} {cl:Int} {last:Bool} {k z:Int} (h:outS b.X t0 b.n=some (k,z)):bkP b s t0 cl last=k∧bkZ b s t0 cl last=z:=by
 unfold bkP bkZ blkO;rw [h];exact⟨rfl,rfl⟩
theorem blk_a2 {b:Bk} {s:Ls} {t0:Tri} {cl:Int} {last:Bool} {k z:Int} (h:outS b.X t0 b.n=none) (h2:outG (ndw b s) rall b.n=some (k,z)):bkP b s t0 cl last=k∧bkZ b s t0 cl last=z:=by
 unfold bkP bkZ blkO;rw [h,h2];exact⟨rfl,rfl⟩
theorem blk_a3 {b:Bk} {s:Ls} {t0:Tri} {cl:Int} {last:Bool} {o:Tri} {r:Rch} (h:outS b.X t0 b.n=none) (h2:outG (ndw b s) rall b.n=none) (ho:outT b.X t0 b.n=o) (hr:outR (ndw b s) b.n=r) {ez:Int} (he:exZ b.hd b.ex s o r cl last=ez) :
  (ez≠0→bkP b s t0 cl last = -1∧bkZ b s t0 cl last=ez)∧(ez=0→bkP b s t0 cl last=b.n∧bkZ b s t0 cl last=0):=by
 subst he ho hr
 unfold bkP bkZ blkO
 rw [h,h2]
 simp only []
 refine⟨fun hz=>?_,fun hz=>?_⟩
 ·rw [if_neg hz];exact⟨rfl,rfl⟩
 ·rw [if_pos hz];exact⟨rfl,rfl⟩
def SaysI (Z:Int) (w:World) (e:Ending) (w':World):Prop:=e=.returned (.int .i64 Z)∧Below w.heap.size w w'
theorem exz_no {h:Hd} {s:Ls} {o:Tri} {r:Rch} {cl:Int} {last:Bool} (ht:(last || told h)=true):exZ h false s o r cl last=11:=by unfold exZ;rw [if_pos rfl,if_pos ht]
theorem exz_none {h:Hd} {s:Ls} {o:Tri} {r:Rch} {cl:Int} {last:Bool} (ht:(last || told h)=false):exZ h false s o r cl last=0:=by unfold exZ;rw [if_pos rfl,if_neg (by rw [ht];decide)]
theorem exz_chk {h:Hd} {s:Ls} {o:Tri} {r:Rch} {cl:Int} {last:Bool} {cz:Int} (hc:verdE o.1 o.2.1 o.2.2 h.nW h.nB h.D cl=cz) (hz:cz≠0):exZ h true s o r cl last=cz:=by
 subst hc;unfold exZ;rw [if_neg (by decide),if_pos hz]
theorem exz_head {h:Hd} {s:Ls} {o:Tri} {r:Rch} {cl:Int} {last:Bool} (hc:verdE o.1 o.2.1 o.2.2 h.nW h.nB h.D cl=0):exZ h true s o r cl last=headZ s.hw s.hb h.nW h.nB r.1 r.2:=by
 unfold exZ;rw [if_neg (by decide),if_neg (by simpa using hc)]
theorem told_w {h:Hd} (q:0 < h.nW):told h=true:=by unfold told;simp [q]
theorem told_b {h:Hd} (q:0 < h.nB):told h=true:=by unfold told;simp [q]
theorem told_d {h:Hd} (q:¬ h.D=0):told h=true:=by unfold told;simp [q]
theorem told_no {h:Hd} (q1:h.nW=0) (q2:h.nB=0) (q3:h.D=0):told h=false:=by unfold told;simp [q1,q2,q3]
theorem ls_nd {w:World} {b:Bk} {s:Ls} (h:BkRdy w b s) {wx:World} (hb:Below w.heap.size w wx):∀ j,j < b.n→NdL wx wx.heap.size (ndw b s j).1 (ndw b s j).2.1 (ndw b s j).2.2∧(ndw b s j).1.nW≤20000∧(ndw b s j).1.nB≤20000 :=
 fun j hj=>⟨((h.below hb).ls).nds j hj,by have:(b.X j).nW≤1000∧(b.X j).nB≤100:=h.few.2.1 j hj;exact Nat.le_trans this.1 (by decide),by have:(b.X j).nW≤1000∧(b.X j).nB≤100:=h.few.2.1 j hj;exact Nat.le_trans this.2 (by decide)⟩
theorem rall_bd:RBd rall:=⟨⟨by decide,by decide⟩,by decide,by decide⟩
theorem cshp_at {w:World} {b:Bk} {s:Ls} (h:BkRdy w b s) (hT:zad w) (t0:Tri) {wx:World} (hb:Below w.heap.size w wx) :
  Calls Tryz.prog 98 #[.slice b.A b.n b.c,.agg #[.int .i64 t0.1,.int .i64 t0.2.1,.int .i64 t0.2.2]] wx (ShpPost b.X t0 b.n wx) :=
 cshapes_to b.X t0 b.n b.c (by have:=h.few.1;omega) b.A wx (hT.grown hb) (fun j hj=>node_small (h.ls.nds j hj).ok) (h.below hb).nodes
theorem cflow_at {w:World} {b:Bk} {s:Ls} (h:BkRdy w b s) (hT:zad w) {wx:World} (hb:Below w.heap.size w wx) :
  Calls Tryz.prog 99 #[.slice b.A b.n b.c,.agg #[.int .i8 (-128),.int .i8 127]] wx (FcPost (ndw b s) rall b.n wx) :=
 cflow_to (ndw b s) rall rall_bd b.n b.c (by have:=h.few.1;omega) b.A wx (hT.grown hb) (fun j hj=>node_small (h.ls.nds j hj).ok) (h.below hb).nodes (ls_nd h hb)
theorem chead_at {w:World} {b:Bk} {s:Ls} (h:BkRdy w b s) {r:Rch} (hr:RBd r) {wx:World} (hb:Below w.heap.size w wx) :
  Calls Tryz.prog 134 #[.agg #[.slice b.hd.WA b.hd.nW b.hd.cW,.slice b.hd.BA b.hd.nB b.hd.cB,.int .i32 b.hd.D],.agg #[.int .i8 r.1,.int .i8 r.2]] wx (SaysI (headZ s.hw s.hb b.hd.nW b.hd.nB r.1 r.2) wx) :=
 have hh:=h.below hb
 chead_to b.hd.WA b.hd.BA b.hd.nW b.hd.cW b.hd.nB b.hd.cB s.hw s.hb hh.ls.lw.1 hh.ls.lb.1 hh.ls.lw.2.2 hh.ls.lb.2.2 hh.ls.lw.2.1 hh.ls.lb.2.1 (by have:=h.few.2.2.1;omega) (by have:=h.few.2.2.2;omega) r.1 r.2 hr.1.1 hr.1.2 hr.2.1 hr.2.2 b.hd.D wx hh.ls.rw hh.ls.rb
theorem outR_bd {w:World} {B:Nat} {b:Bk} {s:Ls} (h:LsOk w B b s) {r:Rch} (hr:(rcL (ndw b s) rall b.n)[b.n]?=some r):RBd r :=
 rcL_bd (ndw b s) rall rall_bd b.n (fun j hj=>⟨w,B,(h.nds j hj).ok⟩) b.n r hr
end CValid
end
end Go.Proofs.YtfgdfignoakkaaaGreatDoor
