/- -/
import Derived.Test.YtfgdfignoakkaaaGreatDoorGBT34
open Go.Lib (hid)
open Nat (le_refl lt_of_succ_lt lt_succ_self)
set_option linter.unusedVariables false
set_option linter.unusedSimpArgs false
set_option maxRecDepth 100000
set_option maxHeartbeats 16000000
namespace Go.Proofs.YtfgdfignoakkaaaGreatDoor
namespace CConv
end CConv
namespace CFix
end CFix
namespace CGraph
end CGraph
namespace CJoin
end CJoin
namespace CKind
end CKind
namespace CLeb
end CLeb
namespace COctet
end COctet
namespace CPack
end CPack
namespace CSat
end CSat
namespace CShape
end CShape
namespace CSpan
end CSpan
namespace CTensor
end CTensor
open Go Go.ChangeShapes Go.WideShapes Go.ChangeAt Go.RowKit Go.Deep
section
namespace CPkW
open LebNum CLeb COctet CKind CPack CPk
abbrev PS:=WS × Nd × List Int × List Int
def stN (j:Nat) (most:Int) (p:PS):PS:=(numW p.1 (getI p.2.1 j) most,p.2)
def stS (j:Nat) (p:PS):PS:=(smlW p.1 (getI p.2.1 j),p.2)
def stW (p:PS):PS:=(wtsW p.1 p.2.2.1,p.2)
def stB (p:PS):PS:=(bisW p.1 p.2.2.2,p.2)
structure Hold (N W nb o L:Nat) (p:PS) (w:World):Prop where
 at_:WrAt W p.1 w
 nm:NM PT (OW W) nb o p.2.1 p.2.2.1 p.2.2.2 w
 own:¬ OW W w nb
 lt:nb < w.heap.size
 NW:N≤W
 Nb:N≤nb
 len:p.1.1.length≤L
 bd:NBd p.2.1
 wb:I8r p.2.2.1∧p.2.2.1.length≤1000000
 bb:I32s p.2.2.2∧p.2.2.2.length≤1000000
theorem Hold.ow {N W nb o L:Nat} {p:PS} {w w':World} (h:Hold N W nb o L p w) (hb:Below w.heap.size w w'):∀ k,k < w.heap.size→¬ OW W w k→¬ OW W w' k:=OW.stay h.at_ hb
theorem Hold.below {N W nb o L:Nat} {p:PS} {w w':World} (h:Hold N W nb o L p w) (hb:Below w.heap.size w w'):Hold N W nb o L p w' :=
 ⟨h.at_.below hb,h.nm.keep h.lt h.own (h.at_.fr (N:=N) hb (by have:=h.at_.lt;have:=h.NW;omega)),h.ow hb nb h.lt h.own,Nat.lt_of_lt_of_le h.lt hb.size,h.NW,h.Nb,h.len,h.bd,h.wb,h.bb⟩
theorem Hold.fr {N W nb o L:Nat} {p:PS} {J:Nat→Prop} {w w':World} (h:Hold N W nb o L p w) (hb:Below w.heap.size w w'):Fr (OW W) N nb J w w':=h.at_.fr hb (by have:=h.at_.lt;have:=h.NW;omega)
theorem Hold.more {N W nb o L L':Nat} {p:PS} {w:World} (h:Hold N W nb o L p w) (hL:L≤L'):Hold N W nb o L' p w:=⟨h.at_,h.nm,h.own,h.lt,h.NW,h.Nb,Nat.le_trans h.len hL,h.bd,h.wb,h.bb⟩
theorem Hold.new {N W nb o L:Nat} {p:PS} {w w':World} (h:Hold N W nb o L p w) (hb:Below w.heap.size w w') {k:Nat} (hk:w.heap.size≤k):¬ OW W w' k∧k≠nb:=⟨OW.new h.at_ hb hk,by have:=h.lt;omega⟩
theorem Hold.on {N W nb o L L':Nat} {p:PS} {t:WS} {w w':World} (h:Hold N W nb o L p w) (ha:WrAt W t w') (f:Fr (OW W) N W (fun _=>True) w w') (hl:t.1.length≤L'):Hold N W nb o L' (t,p.2) w'∧∀ J,Fr (OW W) N nb J w w' :=
 have g:∀ J,Fr (OW W) N nb J w w':=fun J=>f.any (OW.self W w)
 ⟨⟨ha,h.nm.keep h.lt h.own (g _),(g (fun _=>True)).own nb h.lt h.own,Nat.lt_of_lt_of_le h.lt f.size,h.NW,h.Nb,hl,h.bd,h.wb,h.bb⟩,g⟩
def Left (N W nb o L:Nat) (p:PS) (w:World) (e:Ending) (w':World):Prop:=e=.returned (.tuple #[])∧Hold N W nb o L p w'∧Fr (OW W) N nb (Jn o) w w'
theorem vnum (N W nb o L j:Nat) (most:Int) (p:PS) (w:World) (hj:is64 j) (h0:0≤most) (hm:most≤9223372036854775807) (hL:L≤700000000) (h:Hold N W nb o L p w) :
  Calls Tryz.prog 211 #[.pointer (some ⟨W,0,none⟩),.pointer (some ⟨nb,o+j,none⟩),.int .i64 most] w (Left N W nb o (L+200000) (stN j most p) w):=by
 obtain⟨WA,cW,BA,cB,n1,n2,n3⟩:=h.nm
 refine (wnum_to N W p.1 (getI p.2.1 j) most nb (o+j) w (h.bd.b64 j hj) (by have:=h.len;omega) h.NW (n1.at j _ (ndg64 _ _ _ _ _ _ _ hj)) h.own h.at_).mono ?_
 rintro e w' ⟨rfl,a,f⟩
 have q:=h.on (L':=L+200000) a f (by have:=zbt (s:=p.1) (v:=getI p.2.1 j) hm;have:=h.len;omega)
 exact⟨rfl,q.1,q.2 _⟩
theorem vsml (N W nb o L j:Nat) (p:PS) (w:World) (hj:is8 j) (hL:L≤700000000) (h:Hold N W nb o L p w) :
  Calls Tryz.prog 245 #[.pointer (some ⟨W,0,none⟩),.pointer (some ⟨nb,o+j,none⟩)] w (Left N W nb o (L+200000) (stS j p) w):=by
 obtain⟨WA,cW,BA,cB,n1,n2,n3⟩:=h.nm
 refine (wsml_to N W p.1 (getI p.2.1 j) nb (o+j) w (h.bd.b8 j hj) (by have:=h.len;omega) h.NW (n1.at j _ (ndg8 _ _ _ _ _ _ _ hj)) h.at_).mono ?_
 rintro e w' ⟨rfl,a,f⟩
 have q:=h.on (L':=L+200000) a f (by have q:=addW_len (s:=p.1) (xs:=[getI p.2.1 j % 256]);have:=h.len;exact Nat.le_trans q (by simp only [List.length_cons,List.length_nil];omega))
 exact⟨rfl,q.1,q.2 _⟩
theorem wtsW_len {s:WS} {l:List Int} (h:l.length≤1000000):(wtsW s l).1.length≤s.1.length+200000:=by
 have h1:=zbt (s:=s) (v:=l.length) (most:=16384) (by decide)
 unfold wtsW
 by_cases q:(numW s l.length 16384).2=0
 ·rw [if_pos q]
  have h2:=addW_len (s:=numW s l.length 16384) (xs:=za6 l)
  have h3:=(numW_ok q).2.2.1
  have h4:(za6 l).length=l.length:=by simp [za6]
  omega
 ·rw [if_neg q];omega
theorem bisW_len {s:WS} {l:List Int} (hi:I32s l) (h:l.length≤1000000):(bisW s l).1.length≤s.1.length+200000:=by
 have h1:=zbt (s:=s) (v:=l.length) (most:=16384) (by decide)
 unfold bisW
 by_cases q:(numW s l.length 16384).2=0
 ·rw [if_pos q]
  have h2:=addW_len (s:=numW s l.length 16384) (xs:=encZ l)
  have h3:=(numW_ok q).2.2.1
  have h4:=(encZ_len l hi).2
  omega
 ·rw [if_neg q];omega
theorem vwts (N W nb o L:Nat) (p:PS) (w:World) (hL:L≤700000000) (h:Hold N W nb o L p w) :
  Calls Tryz.prog 213 #[.pointer (some ⟨W,0,none⟩),.pointer (some ⟨nb,o+9,none⟩)] w (Left N W nb o (L+200000) (stW p) w):=by
 obtain⟨WA,cW,BA,cB,n1,n2,n3⟩:=h.nm
 refine (wwts_to N W p.1 p.2.2.1 WA _ cW nb (o+9) rfl h.wb.1 w (by have:=h.len;omega) h.wb.2 h.NW (n2.own (OW.self W w)) (n1.at 9 _ rfl) h.at_).mono ?_
 rintro e w' ⟨rfl,a,f⟩
 have q:=h.on (L':=L+200000) a f (by have:=wtsW_len (s:=p.1) h.wb.2;have:=h.len;omega)
 exact⟨rfl,q.1,q.2 _⟩
theorem vbis (N W nb o L:Nat) (p:PS) (w:World) (hL:L≤700000000) (h:Hold N W nb o L p w) :
  Calls Tryz.prog 208 #[.pointer (some ⟨W,0,none⟩),.pointer (some ⟨nb,o+10,none⟩)] w (Left N W nb o (L+200000) (stB p) w):=by
 obtain⟨WA,cW,BA,cB,n1,n2,n3⟩:=h.nm
 refine (wbis_to N W p.1 p.2.2.2 BA _ cB nb (o+10) rfl h.bb.1 w (by have:=h.len;omega) h.bb.2 h.NW (n3.own (OW.self W w)) (n1.at 10 _ rfl) h.at_).mono ?_
 rintro e w' ⟨rfl,a,f⟩
 have q:=h.on (L':=L+200000) a f (by have:=bisW_len (s:=p.1) h.bb.1 h.bb.2;have:=h.len;omega)
 exact⟨rfl,q.1,q.2 _⟩
theorem vbox (N W nb o L b:Nat) (v most:Int) (p:PS) (w w0:World) (h0:0≤most) (hm:most≤9223372036854775807) (hv : -2147483648≤v∧v≤2147483647) (hL:L≤700000000) (h:Hold N W nb o L p w) (hb:Below w.heap.size w w0) (hbb:w.heap.size≤b) (hc:w0.cell? ⟨b,0,none⟩=some (.int .i64 v)) (hf:w0.frozen? ⟨b,0,none⟩=false) :
  Calls Tryz.prog 211 #[.pointer (some ⟨W,0,none⟩),.pointer (some ⟨b,0,none⟩),.int .i64 most] w0 fun e w'=>e=.returned (.tuple #[])∧Hold N W nb o (L+200000) (numW p.1 v most,p.2) w'∧(∀ J,Fr (OW W) N nb J w w')∧w'.cell? ⟨b,0,none⟩=some (.int .i64 v):=by
 have hn:=h.new hb hbb
 have hd:=h.below hb
 refine (wnum_to N W p.1 v most b 0 w0 (by omega) (by have:=h.len;omega) h.NW hc hn.1 hd.at_).mono ?_
 rintro e w' ⟨rfl,a,f⟩
 have q:=hd.on (L':=L+200000) a f (by have:=zbt (s:=p.1) (v:=v) hm;have:=h.len;omega)
 exact⟨rfl,q.1,fun J=>(h.fr hb).trans (q.2 J),((f.any (OW.self W w0) (nb:=b) (J:=fun _=>False)).cell (World.block_lt_of_cell? w0 _ hc) hn.1 0 id).trans hc⟩
theorem vset (N W nb o L j:Nat) (p q:PS) (v:Int) (w w1:World) (hj:is32 j) (hq:q.2=p.2) (hv:v=getI p.2.1 j) (hw:Fr (OW W) N nb (Jn o) w w1) (h:Hold N W nb o L q w1) :
  Hold N W nb o L (q.1,p.2) (w1.setCell ⟨nb,o+j,none⟩ (.int .i32 v))∧Fr (OW W) N nb (Jn o) w (w1.setCell ⟨nb,o+j,none⟩ (.int .i32 v)):=by
 have hO:∀ k,¬ OW W w1 k→¬ OW W (w1.setCell ⟨nb,o+j,none⟩ (.int .i32 v)) k:=fun k hk s=>hk ((OW.keep (Below.heap_setCell _ _ _ W (fun e=>h.own (.inl (show nb=W from e.symm)))) k).1 s)
 obtain⟨WA,cW,BA,cB,n1,n2,n3⟩:=h.nm
 have hc:=n1.at j _ (ndg32 _ _ _ _ _ _ _ hj)
 have f:Fr (OW W) N nb (fun q=>q=o+j) w1 (w1.setCell ⟨nb,o+j,none⟩ (.int .i32 v)):=Fr.set (o+j) _ h.Nb rfl hO
 have hnm:=h.nm.put h.lt h.own (y:=putI q.2.1 j v) hj.lt f (World.cell?_setCell_same _ _ _ hc) (fun _ _ _ _ _ _=>ndp32 _ _ _ _ _ _ _ hj v)
 have hy:putI q.2.1 j v=q.2.1:=by rw [hv, ← hq];exact putI_get _ _
 rw [hy] at hnm
 rw [← hq]
 exact⟨⟨h.at_.keep fun k hk=>Below.heap_setCell _ _ _ k (fun e=>h.own (by rw [show k=nb from e] at hk;exact hk)),hnm,hO nb h.own,by simp;exact h.lt,h.NW,h.Nb,h.len,h.bd,h.wb,h.bb⟩,hw.trans (f.mono fun q e=>by have:=hj.lt;subst e;exact⟨by omega,by omega⟩)⟩
theorem wide_to (v:Value) (w:World) (hv:v.oneCell'=true):Calls Tryz.prog 102 #[v] w fun e w'=>e=.returned (.func (.func 135) #[] #[.pointer (some ⟨w.heap.size,0,none⟩)])∧w'=w.alloc (.cells #[v] 137):=by
 go_enter Tryz.func102,Tryz.ntmps102
 go_wp2
 go_ret
 exact⟨rfl,rfl⟩
theorem vwid (N W nb o L j:Nat) (p:PS) (w:World) (bb:Nat) (hj:is32 j) (hL:L≤700000000) (hbb:w.cell? ⟨bb,0,none⟩=some (.iface 134 (.pointer (some ⟨W,0,none⟩)))) (h:Hold N W nb o L p w) :
  Calls Tryz.prog 135 #[.pointer (some ⟨nb,o+j,none⟩),.pointer (some ⟨bb,0,none⟩)] w (Left N W nb o (L+200000) (stN j 2147483647 p) w):=by
 have hbd:=h.bd.b32 j hj
 have hn:getI p.2.1 j=getI p.2.1 j:=rfl
 obtain⟨z,hz⟩:∃ z,getI p.2.1 j=z:=⟨_,rfl⟩
 obtain⟨y,hy⟩:∃ y,getI p.2.1 j=y:=⟨_,rfl⟩
 have hy2:y=z:=hy.symm.trans hz
 have hyb : -2147483648≤y∧y≤2147483647:=hy ▸ hbd
 obtain⟨WA,cW,BA,cB,n1,n2,n3⟩:=h.nm
 have c0:=n1.at j _ (ndg32 _ _ _ _ _ _ _ hj)
 rw [hz] at c0 hbd
 have wz:IntKind.i64.wrap z=z:=by simp [IntKind.wrap,IntKind.signed,IntKind.bits];omega
 have wy:IntKind.i32.wrap y=y:=by simp [IntKind.wrap,IntKind.signed,IntKind.bits];omega
 have HH:=hid h
 have hal:Below w.heap.size w (w.alloc (.cells #[.int .i64 z] 3)):=(Below.refl _ _).alloc (le_refl _) _
 have CB:=hid (vbox N W nb o L w.heap.size z 2147483647 p w (w.alloc (.cells #[.int .i64 z] 3)) (by decide) (by decide) hbd hL h hal (le_refl _) (Kit.zab _ _ _ 0) (World.frozen?_alloc_at _ _ _ _ rfl))
 have HBB:Hid ((w.alloc (.cells #[.int .i64 z] 3)).cell? ⟨bb,0,none⟩=some (.iface 134 (.pointer (some ⟨W,0,none⟩)))):=hid ((hal.cell (p:=⟨bb,0,none⟩) (World.block_lt_of_cell? w _ hbb)).trans hbb)
 have HS:Hid (∀ (q:PS) w1,q.2=p.2→Fr (OW W) N nb (Jn o) w w1→Hold N W nb o (L+200000) q w1→Hold N W nb o (L+200000) (q.1,p.2) (w1.setCell ⟨nb,o+j,none⟩ (.int .i32 y))∧Fr (OW W) N nb (Jn o) w (w1.setCell ⟨nb,o+j,none⟩ (.int .i32 y)))
  := hid (fun q w1 h1 h2 h3=>vset N W nb o (L+200000) j p q y w w1 hj h1 hy.symm h2 h3)
 have HFC:Hid (∀ (q:PS) w1,Hold N W nb o (L+200000) q w1→∃ u,w1.cell? ⟨nb,o+j,none⟩=some (.int .i32 u)∧w1.frozen? ⟨nb,o+j,none⟩=false):=hid (fun q w1 h1=>by
  obtain⟨WA,cW,BA,cB,m1,m2,m3⟩:=h1.nm
  exact⟨_,m1.at j _ (ndg32 _ _ _ _ _ _ _ hj),m1.fr_ j _ (ndg32 _ _ _ _ _ _ _ hj)⟩)
 unfold Left stN
 rw [hz]
 rw [hy2] at wy HS
 clear n1 n2 n3 h hz hy hy2 hyb hn hbd hal
 go_enter Tryz.func135,Tryz.ntmps135
 go_upto_region 1 with fail
 generalize w.alloc (.cells #[.int .i64 z] 3)=W0 at CB HBB ⊢
 have hb0:=HBB.out
 clear c0
 go_wp2_with (go_at_call 211;(refine CB.out.mono ?_);rintro e w1 ⟨rfl,h1,h2,h3⟩;(have H1:=hid h1);(have H2:=hid h2);obtain⟨u,cu,fu⟩:=HFC.out _ _ h1;clear h1 h2)
 go_end0
 exact⟨rfl,HS.out (numW p.1 z 2147483647,p.2) _ rfl (H2.out _) H1.out⟩
theorem vcls (N W nb o L j:Nat) (p:PS) (w:World) (bb:Nat) (b:Bool) (hj:is8 j) (hL:L≤700000000) (hbb:w.cell? ⟨bb,0,none⟩=some (.iface 134 (.pointer (some ⟨W,0,none⟩)))) (h:Hold N W nb o L p w) :
  Calls Tryz.prog 225 #[.int .i8 (b01 b),.pointer (some ⟨nb,o+j,none⟩),.pointer (some ⟨bb,0,none⟩)] w (Left N W nb o (L+200000) (if b=true then stS j p else p) w):=by
 have CS:=hid (vsml N W nb o L j p w hj hL h)
 have HH:=hid h
 unfold Left at *
 clear h
 cases b with
 | true =>
   rw [if_pos rfl,show b01 true=1 from rfl]
   go_enter Tryz.func225,Tryz.ntmps225
   go_wp2_with (go_at_call 245;(refine CS.out.mono ?_);rintro e w1 ⟨rfl,h1,h2⟩;(have H1:=hid h1);(have H2:=hid h2);clear h1 h2)
   go_end0
   exact⟨rfl,H1.out,H2.out⟩
 | false =>
   rw [if_neg (by decide),show b01 false=0 from rfl]
   go_enter Tryz.func225,Tryz.ntmps225
   go_wp2_with fail
   go_end0
   exact⟨rfl,HH.out.more (by omega),Fr.refl _ _ _ _ _⟩
end CPkW
end
section
namespace CPk
open Go Go.ChangeShapes Go.WideShapes Go.ChangeAt Go.RowKit
open LebNum CLeb COctet CKind CPack
def BkO (nb o:Nat) (nd:Value) (ex:Bool) (WA:Option Addr) (nW cW:Nat) (BA:Option Addr) (nB cB:Nat) (D:Int) (w:World):Prop:=w.rangeAt nb o [nd,.bool ex,.slice WA nW cW,.slice BA nB cB,.int .i32 D]
def exitW (s:WS) (ex:Bool) (nW nB:Nat) (D:Int):WS :=
 numW (if ex=true then s else if 0 < nW∨0 < nB∨D≠0 then failW s 11 else s) (if ex=true then 1 else 0) 1
theorem wexit_to (N W:Nat) (s:WS) (nb o:Nat) (nd:Value) (ex:Bool) (WA:Option Addr) (nW cW:Nat) (BA:Option Addr) (nB cB:Nat) (D:Int) (w:World) (hl:s.1.length≤800000000) (hN:N≤W) (hb:BkO nb o nd ex WA nW cW BA nB cB D w) (h:WrAt W s w) :
  Calls Tryz.prog 209 #[.pointer (some ⟨W,0,none⟩),.pointer (some ⟨nb,o,none⟩)] w (GoesW N W (exitW s ex nW nB D) w):=by
 have hal:Below w.heap.size w (w.alloc (.cells #[.int .i64 0] 3)):=(Below.refl _ _).alloc (le_refl _) _
 have hal1:Below w.heap.size w (w.alloc (.cells #[.int .i64 1] 3)):=(Below.refl _ _).alloc (le_refl _) _
 have HH:=hid h
 have HL:=hid hl
 have HN:=hid hN
 have d1:=hb 1 _ rfl
 have d2:=hb 2 _ rfl
 have d3:=hb 3 _ rfl
 have d4:=hb 4 _ rfl
 have hnb:nb < w.heap.size:=World.block_lt_of_cell? w _ d1
 have HC:Hid (∀ w',Below w.heap.size w w'→w'.cell? ⟨nb,o+1,none⟩=some (.bool ex)∧w'.cell? ⟨nb,o+2,none⟩=some (.slice WA nW cW)∧w'.cell? ⟨nb,o+3,none⟩=some (.slice BA nB cB)∧w'.cell? ⟨nb,o+4,none⟩=some (.int .i32 D)) :=
  hid (fun w' q=>⟨(q.cell (p:=⟨nb,o+1,none⟩) hnb).trans d1,(q.cell (p:=⟨nb,o+2,none⟩) hnb).trans d2,(q.cell (p:=⟨nb,o+3,none⟩) hnb).trans d3,(q.cell (p:=⟨nb,o+4,none⟩) hnb).trans d4⟩)
 unfold GoesW
 cases ex with
 | true =>
   have CN:Hid (∀ wx,wx.cell? ⟨w.heap.size,0,none⟩=some (.int .i64 1)→Below w.heap.size w wx→Calls Tryz.prog 211 #[.pointer (some ⟨W,0,none⟩),.pointer (some ⟨w.heap.size,0,none⟩),.int .i64 1] wx (GoesW N W (numW s 1 1) wx)) :=
    hid (fun wx hc q=>wnum_to N W s 1 1 w.heap.size 0 wx (by omega) (by have:=HL.out;omega) HN.out hc (OW.new HH.out q (le_refl _)) (HH.out.below q))
   unfold GoesW at CN
   obtain⟨c1,c2,c3,c4⟩:=HC.out _ hal
   clear d1 d2 d3 d4 hb h hl hN c2 c3 c4
   go_enter Tryz.func209,Tryz.ntmps209
   go_upto_region 5 with fail
   have c0:(w.alloc (.cells #[.int .i64 1] 3)).cell? ⟨w.heap.size,0,none⟩=some (.int .i64 1):=Kit.zab _ _ _ 0
   generalize w.alloc (.cells #[.int .i64 1] 3)=W0 at hal1 c0 ⊢
   go_wp2_with (go_at_call 211;(refine (CN.out _ c0 hal1).mono ?_);rintro e w1 ⟨rfl,h1,h2⟩;(have H1:=hid h1);(have H2:=hid h2);clear h1 h2)
   go_end0
   rw [show exitW s true nW nB D=numW s 1 1 from by unfold exitW;rw [if_pos rfl,if_pos rfl]]
   exact⟨rfl,H1.out,(HH.out.fr hal1 (by have:=HN.out;have:=HH.out.lt;omega)).trans H2.out⟩
 | false =>
   have CN:Hid (∀ (t:WS) wx,t.1.length≤800000000→WrAt W t wx→wx.cell? ⟨w.heap.size,0,none⟩=some (.int .i64 0)→¬ OW W wx w.heap.size→Calls Tryz.prog 211 #[.pointer (some ⟨W,0,none⟩),.pointer (some ⟨w.heap.size,0,none⟩),.int .i64 1] wx (GoesW N W (numW t 0 1) wx)) :=
    hid (fun t wx ht hw hc ho=>wnum_to N W t 0 1 w.heap.size 0 wx (by omega) (by omega) HN.out hc ho hw)
   unfold GoesW at CN
   have c0:(w.alloc (.cells #[.int .i64 0] 3)).cell? ⟨w.heap.size,0,none⟩=some (.int .i64 0):=Kit.zab _ _ _ 0
   have ho:=OW.new HH.out hal (le_refl w.heap.size)
   have HW0:=hid (HH.out.below hal)
   have CF:=hid (wfail_to N W s 11 _ HN.out HW0.out)
   have HF0:Hid (Fr (OW W) N W (fun _=>True) w (w.alloc (.cells #[.int .i64 0] 3))):=hid (HH.out.fr hal (by have:=HN.out;have:=HH.out.lt;omega))
   obtain⟨c1,c2,c3,c4⟩:=HC.out _ hal
   have HC0:=hid (And.intro c0 ho)
   by_cases hp:0 < nW∨0 < nB∨D≠0
   ·have HP:=hid hp
    have hlt:w.heap.size < (w.alloc (.cells #[.int .i64 0] 3)).heap.size:=by simp
    have HLT:=hid hlt
    clear d1 d2 d3 d4 hb h hl hN ho hal1 HC hlt
    have hq:(0 < nW)∨(nW=0∧0 < nB)∨(nW=0∧nB=0∧D≠0):=by omega
    clear hp
    rcases hq with b1 | ⟨rfl,b2⟩ | ⟨rfl,rfl,b3⟩
    ·have e1:decide (0 < nW)=true:=by simpa using b1
     have e2:(0:Int) < (nW:Int):=by omega
     have e3:decide ((0:Int) < (nW:Int))=true:=by simpa using e2
     go_enter Tryz.func209,Tryz.ntmps209
     go_upto_region 1 with fail
     generalize w.alloc (.cells #[.int .i64 0] 3)=W0 at *
     go_wp2_with ((first
      | (go_at_call 216;(refine CF.out.mono ?_);rintro e w1 ⟨rfl,h1,h2⟩;(have H1:=hid h1);(have H2:=hid h2);(have q:=(h2.any (OW.self W _) (nb:=w.heap.size) (J:=fun _=>False)));(have e0:=(q.cell HLT.out HC0.out.2 0 id).trans HC0.out.1);(have HE0:=hid (And.intro e0 (q.own _ HLT.out HC0.out.2)));clear h1 h2 q e0)
      | (go_at_call 211;(refine (CN.out (failW s 11) _ HL.out H1.out HE0.out.1 HE0.out.2).mono ?_);rintro e w2 ⟨rfl,h1,h2⟩;(have H3:=hid h1);(have H4:=hid h2);clear h1 h2)))
     go_end0
     rw [show exitW s false nW nB D=numW (failW s 11) 0 1 from by unfold exitW;rw [if_neg (by decide),if_pos HP.out,if_neg (by decide)]]
     exact⟨rfl,H3.out,HF0.out.trans (H2.out.trans H4.out)⟩
    ·have e1:decide (0 < nB)=true:=by simpa using b2
     have e2:(0:Int) < (nB:Int):=by omega
     have e3:decide ((0:Int) < (nB:Int))=true:=by simpa using e2
     go_enter Tryz.func209,Tryz.ntmps209
     go_upto_region 1 with fail
     generalize w.alloc (.cells #[.int .i64 0] 3)=W0 at *
     go_wp2_with ((first
      | (go_at_call 216;(refine CF.out.mono ?_);rintro e w1 ⟨rfl,h1,h2⟩;(have H1:=hid h1);(have H2:=hid h2);(have q:=(h2.any (OW.self W _) (nb:=w.heap.size) (J:=fun _=>False)));(have e0:=(q.cell HLT.out HC0.out.2 0 id).trans HC0.out.1);(have HE0:=hid (And.intro e0 (q.own _ HLT.out HC0.out.2)));clear h1 h2 q e0)
      | (go_at_call 211;(refine (CN.out (failW s 11) _ HL.out H1.out HE0.out.1 HE0.out.2).mono ?_);rintro e w2 ⟨rfl,h1,h2⟩;(have H3:=hid h1);(have H4:=hid h2);clear h1 h2)))
     go_end0
     rw [show exitW s false 0 nB D=numW (failW s 11) 0 1 from by unfold exitW;rw [if_neg (by decide),if_pos HP.out,if_neg (by decide)]]
     exact⟨rfl,H3.out,HF0.out.trans (H2.out.trans H4.out)⟩
    ·have e1:(D != 0)=true:=by simpa using b3
     have e2:(D == 0)=false:=by simpa using b3
     have e3:decide (D=0)=false:=by simpa using b3
     go_enter Tryz.func209,Tryz.ntmps209
     go_upto_region 1 with fail
     generalize w.alloc (.cells #[.int .i64 0] 3)=W0 at *
     go_wp2_with ((first
      | (go_at_call 216;(refine CF.out.mono ?_);rintro e w1 ⟨rfl,h1,h2⟩;(have H1:=hid h1);(have H2:=hid h2);(have q:=(h2.any (OW.self W _) (nb:=w.heap.size) (J:=fun _=>False)));(have e0:=(q.cell HLT.out HC0.out.2 0 id).trans HC0.out.1);(have HE0:=hid (And.intro e0 (q.own _ HLT.out HC0.out.2)));clear h1 h2 q e0)
      | (go_at_call 211;(refine (CN.out (failW s 11) _ HL.out H1.out HE0.out.1 HE0.out.2).mono ?_);rintro e w2 ⟨rfl,h1,h2⟩;(have H3:=hid h1);(have H4:=hid h2);clear h1 h2)))
     go_end0
     rw [show exitW s false 0 0 D=numW (failW s 11) 0 1 from by unfold exitW;rw [if_neg (by decide),if_pos HP.out,if_neg (by decide)]]
     exact⟨rfl,H3.out,HF0.out.trans (H2.out.trans H4.out)⟩
   ·have HP:=hid hp
    obtain⟨rfl,rfl,rfl⟩:nW=0∧nB=0∧D=0:=by omega
    clear d1 d2 d3 d4 hb h hl hN ho hal1 HC hp
    go_enter Tryz.func209,Tryz.ntmps209
    go_upto_region 1 with fail
    generalize w.alloc (.cells #[.int .i64 0] 3)=W0 at *
    go_wp2_with (go_at_call 211;(refine (CN.out s _ HL.out HW0.out HC0.out.1 HC0.out.2).mono ?_);rintro e w2 ⟨rfl,h1,h2⟩;(have H3:=hid h1);(have H4:=hid h2);clear h1 h2)
    go_end0
    rw [show exitW s false 0 0 0=numW s 0 1 from by unfold exitW;rw [if_neg (by decide),if_neg HP.out,if_neg (by decide)]]
    exact⟨rfl,H3.out,HF0.out.trans H4.out⟩
end CPk
end
section
namespace CGuard
open Plain CSat CFix CShape CTensor CConv CSpan CKind CGraph CJoin
theorem chead_no (WA BA:Option Addr) (nW cW nB cB:Nat) (ws bs:List Int) (hws:ws.length=nW) (hbs:bs.length=nB) (hwb:I8b ws) (hbb:∀ q, -2147483648≤bs.getD q 0∧bs.getD q 0≤2147483647) (hcw:nW≤cW) (hcb:nB≤cB) (hW2:nW≤20000) (hB2:nB≤20000) (l h:Int) (l1 : -128≤l) (l2:l≤127) (h1 : -128≤h) (h2:h≤127) (D:Int) (w:World) (hrw:Kit.Rd w w.heap.size WA (I8s ws)) (hrb:Kit.Rd w w.heap.size BA (I32v bs)) (hs:¬ (1≤nB∧nW % nB=0)) :
  Calls Tryz.prog 134 #[.agg #[.slice WA nW cW,.slice BA nB cB,.int .i32 D],.agg #[.int .i8 l,.int .i8 h]] w fun e w'=>e=.returned (.int .i64 9)∧Below w.heap.size w w':=by
 have CA:=hid (fun w:World=>call_no (.int .i64 3) (.int .i64 0) (.int .i64 0) 0 0 0 0 0 0 WA BA nW cW nB cB 0 0 0 0 0 0 0 0 l h (by by_cases h0:nB=0;exact .inl h0;exact .inr (fun e=>hs ⟨by omega,e⟩)) (by omega) (by omega) w)
 clear hrw hrb hs
 have hb1:Below w.heap.size w ((w.alloc (.cells #[.slice WA nW cW,.slice BA nB cB,.int .i32 D] 46)).alloc (.cells #[.int .i8 l,.int .i8 h] 172)):=((Below.refl _ _).alloc (le_refl _) _).alloc (by simp) _
 have HB0:=hid hb1
 clear hb1
 go_enter Tryz.func134,Tryz.ntmps134
 go_wp2_with (first
  | (go_at_call 151
     refine (CA.out _).mono ?_
     rintro e w1 ⟨A,c,rfl,hb⟩
     have HB1:=hid (HB0.out.trans (hb.mono HB0.out.size))
     clear hb))
 go_ret
 exact⟨rfl,HB1.out⟩
theorem chead_yes (WA BA:Option Addr) (nW cW nB cB:Nat) (ws bs:List Int) (hws:ws.length=nW) (hbs:bs.length=nB) (hwb:I8b ws) (hbb:∀ q, -2147483648≤bs.getD q 0∧bs.getD q 0≤2147483647) (hcw:nW≤cW) (hcb:nB≤cB) (hW2:nW≤20000) (hB2:nB≤20000) (l h:Int) (l1 : -128≤l) (l2:l≤127) (h1 : -128≤h) (h2:h≤127) (D:Int) (w:World) (hrw:Kit.Rd w w.heap.size WA (I8s ws)) (hrb:Kit.Rd w w.heap.size BA (I32v bs)) (hs:1≤nB∧nW % nB=0) (f:Bool) (hf:fitB (lsW ws bs nW nB l h 0 false) (grW ws bs nW nB l h 0 false)=f) (z:Int) (hz:(if f=true then (0:Int) else 10)=z) :
  Calls Tryz.prog 134 #[.agg #[.slice WA nW cW,.slice BA nB cB,.int .i32 D],.agg #[.int .i8 l,.int .i8 h]] w fun e w'=>e=.returned (.int .i64 z)∧Below w.heap.size w w':=by
 have CA:Hid (∀ wx,Below w.heap.size w wx→Calls Tryz.prog 151 #[.agg #[.int .i64 3,.int .i64 0,.int .i64 0,.int .i64 0,.int .i64 0,.int .i64 0,.int .i64 0,.int .i8 0,.int .i8 0,.slice WA nW cW,.slice BA nB cB,.int .i32 0,.int .i64 0,.int .i8 0,.int .i32 0,.int .i64 0,.int .i8 0,.int .i8 0,.int .i8 0],.int .i8 l,.int .i8 h] wx fun e w'=>∃ A c P Q,e=.returned (.slice A nB c)∧Hid (Kit.Rd w' w'.heap.size A (pairV P Q nB))∧Hid (holdF P Q nB=f)∧Below wx.heap.size wx w'):=hid (fun wx hb=>by
  refine (call_yes (.int .i64 3) (.int .i64 0) (.int .i64 0) 0 0 0 0 0 0 WA BA nW cW nB cB 0 0 0 0 0 0 0 0 ws bs hws hbs hwb hbb hcw hcb l h l1 l2 h1 h2 (by decide) (by decide) (nW / nB) hs.1 (each_of_shared hs) (by omega) (by omega) false rfl wx ((hrw.below hb).more hb.size) ((hrb.below hb).more hb.size)).mono ?_
  rintro e w' ⟨v,rfl,hown,hb'⟩
  obtain⟨A,c,rfl, -, -,hrd⟩:=Kit.za2 hown
  obtain⟨m,hm⟩:∃ m,nB=m+1:=⟨nB - 1,by omega⟩
  refine⟨A,c,_,_,rfl,hid hrd,hid ?_,hb'⟩
  rw [← hf]
  unfold lsW grW
  rw [lsR_lo,grR_hi,hm]
  exact hold_fit _ _ m)
 have n1:((nB:Int) == 0)=false:=by simp;omega
 have n2:¬ (nB:Int)=0:=by omega
 have HN:=hid hB2
 clear hrw hrb hs hf hws hbs hwb hbb
 have hb1:Below w.heap.size w ((w.alloc (.cells #[.slice WA nW cW,.slice BA nB cB,.int .i32 D] 46)).alloc (.cells #[.int .i8 l,.int .i8 h] 172)):=((Below.refl _ _).alloc (le_refl _) _).alloc (by simp) _
 have HB0:=hid hb1
 clear hb1
 go_enter Tryz.func134,Tryz.ntmps134
 go_upto_region 4 with (go_at_call 151;(refine (CA.out _ HB0.out).mono ?_);rintro e w1 ⟨A,c,P,Q,rfl,HR,HF,hb⟩;(have HB1:=hid (HB0.out.trans (hb.mono HB0.out.size)));clear hb)
 have CH:=hid (cholds_to A P Q nB c (by have:=HN.out;omega) w1 HR.out)
 rw [HF.out] at CH
 clear HR HF CA
 cases f
 ·obtain rfl:(10:Int)=z:=by simpa using hz
  go_wp2_with (go_at_call 152;(refine CH.out.mono ?_);rintro e w2 ⟨rfl,hb⟩;(have HB2:=hid (HB1.out.trans (hb.mono HB1.out.size)));clear hb)
  go_ret
  exact⟨rfl,HB2.out⟩
 ·obtain rfl:(0:Int)=z:=by simpa using hz
  go_wp2_with (go_at_call 152;(refine CH.out.mono ?_);rintro e w2 ⟨rfl,hb⟩;(have HB2:=hid (HB1.out.trans (hb.mono HB1.out.size)));clear hb)
  go_ret
  exact⟨rfl,HB2.out⟩
theorem chead_to (WA BA:Option Addr) (nW cW nB cB:Nat) (ws bs:List Int) (hws:ws.length=nW) (hbs:bs.length=nB) (hwb:I8b ws) (hbb:∀ q, -2147483648≤bs.getD q 0∧bs.getD q 0≤2147483647) (hcw:nW≤cW) (hcb:nB≤cB) (hW2:nW≤20000) (hB2:nB≤20000) (l h:Int) (l1 : -128≤l) (l2:l≤127) (h1 : -128≤h) (h2:h≤127) (D:Int) (w:World) (hrw:Kit.Rd w w.heap.size WA (I8s ws)) (hrb:Kit.Rd w w.heap.size BA (I32v bs)) :
  Calls Tryz.prog 134 #[.agg #[.slice WA nW cW,.slice BA nB cB,.int .i32 D],.agg #[.int .i8 l,.int .i8 h]] w fun e w'=>e=.returned (.int .i64 (headZ ws bs nW nB l h))∧Below w.heap.size w w':=by
 unfold headZ
 by_cases hs:1≤nB∧nW % nB=0
 ·rw [if_pos hs]
  exact chead_yes WA BA nW cW nB cB ws bs hws hbs hwb hbb hcw hcb hW2 hB2 l h l1 l2 h1 h2 D w hrw hrb hs _ rfl _ rfl
 ·rw [if_neg hs]
  exact chead_no WA BA nW cW nB cB ws bs hws hbs hwb hbb hcw hcb hW2 hB2 l h l1 l2 h1 h2 D w hrw hrb hs
end CGuard
end
end Go.Proofs.YtfgdfignoakkaaaGreatDoor
