/- -/
import Derived.Test.YtfgdfignoakkaaaGreatDoorGBT33
open Go.Lib (hid)
open Nat (le_refl lt_of_succ_lt lt_succ_self)
set_option linter.unusedVariables false
set_option linter.unusedSimpArgs false
set_option maxRecDepth 100000
set_option maxHeartbeats 16000000
namespace Go.Proofs.YtfgdfignoakkaaaGreatDoor
namespace CKind
end CKind
namespace CLeb
end CLeb
namespace COctet
end COctet
namespace CPack
end CPack
open Go Go.ChangeShapes Go.WideShapes Go.ChangeAt Go.RowKit Go.Deep
section
namespace CPk
open Go Go.ChangeShapes Go.WideShapes Go.ChangeAt Go.RowKit
open LebNum CLeb COctet CKind CPack
def numW (s:WS) (v most:Int):WS:=if v < 0∨most < v then failW s 3 else addW s (digZ v)
def smlW (s:WS) (z:Int):WS:=addW s [z % 256]
def wtsW (s:WS) (ws:List Int):WS:=if (numW s ws.length 16384).2=0 then addW (numW s ws.length 16384) (za6 ws) else numW s ws.length 16384
def bisW (s:WS) (bs:List Int):WS:=if (numW s bs.length 16384).2=0 then addW (numW s bs.length 16384) (encZ bs) else numW s bs.length 16384
def GoesW (N W:Nat) (t:WS) (w:World) (e:Ending) (w':World):Prop:=e=.returned (.tuple #[])∧WrAt W t w'∧Fr (OW W) N W (fun _=>True) w w'
theorem OW.self (W:Nat) (w:World):OW W w W:=.inl rfl
theorem addW_len {s:WS} {xs:List Int} : (addW s xs).1.length≤s.1.length+xs.length:=by unfold addW;by_cases h:s.2=0 <;> simp [h]
theorem addW_bad {s:WS} {xs:List Int} (h:s.2≠0):addW s xs=s:=by unfold addW;rw [if_neg h]
theorem failW_ne {s:WS} {e:Int} (he:e≠0):(failW s e).2≠0:=by
 unfold failW
 by_cases h:s.2=0
 ·simp [h,he]
 ·simp [h]
theorem zbt {s:WS} {v most:Int} (hm:most≤9223372036854775807):(numW s v most).1.length≤s.1.length+10:=by
 unfold numW
 by_cases h:v < 0∨most < v
 ·rw [if_pos h];simp [failW]
 ·rw [if_neg h]
  have:=addW_len (s:=s) (xs:=digZ v)
  have:=digZ_le (n:=v) (by omega) (by omega)
  omega
theorem wnum_to (N W:Nat) (s:WS) (v most:Int) (pb pj:Nat) (w:World) (hv : -9223372036854775808≤v∧v≤9223372036854775807) (hl:s.1.length≤900000000) (hN:N≤W) (hc:w.cell? ⟨pb,pj,none⟩=some (.int .i64 v)) (hp:¬ OW W w pb) (h:WrAt W s w) :
  Calls Tryz.prog 211 #[.pointer (some ⟨W,0,none⟩),.pointer (some ⟨pb,pj,none⟩),.int .i64 most] w (GoesW N W (numW s v most) w):=by
 have hpl:pb < w.heap.size:=World.block_lt_of_cell? w _ hc
 have HF:=hid (wfail_to N W s 3 w hN h)
 have HW:=hid h
 have u0:0≤IntKind.u64.wrap v:=by simp [IntKind.wrap,IntKind.signed,IntKind.bits];omega
 have u1:IntKind.u64.wrap v≤18446744073709551615:=by simp [IntKind.wrap,IntKind.signed,IntKind.bits];omega
 have HU:Hid (0≤v→IntKind.u64.wrap v=v):=hid (fun q=>by simp [IntKind.wrap,IntKind.signed,IntKind.bits];omega)
 obtain⟨u,hu⟩:∃ u,IntKind.u64.wrap v=u:=⟨_,rfl⟩
 rw [hu] at u0 u1 HU
 obtain⟨ds,hds⟩:∃ ds,digZ u=ds:=⟨_,rfl⟩
 obtain⟨k,hk⟩:∃ k,ds.length=k:=⟨_,rfl⟩
 have CP:=hid (fun wx:World=>put_to u u0 u1 ds k hds hk wx)
 have hk10:Hid (k≤10):=hid (by rw [← hk, ← hds];exact (zb5 u0 u1).2)
 have CA:Hid (∀ (t:WS) (wx:World) (A:Option Addr) (c:Nat),t.1.length≤900000000→WrAt W t wx→Kit.Rd wx wx.heap.size A (zao ds)→Calls Tryz.prog 218 #[.pointer (some ⟨W,0,none⟩),.slice A k c] wx (GoesW N W (addW t ds) wx)) :=
  hid (fun t wx A c ht hW hr=>wadd_to N W t ds A k c hk wx hr (by omega) (by have:=hk10.out;omega) hN hW)
 have HL:=hid hl
 have HN:=hid hN
 have HDS:=hid hds
 have HP:=hid hp
 have HPL:=hid hpl
 clear hds hk hl hN u0 u1 hp hpl
 unfold numW GoesW
 by_cases hlo:v < 0
 ·rw [if_pos (.inl hlo)]
  have b1:decide (v < 0)=true:=by simpa using hlo
  have HE:Hid (addW (failW s 3) ds=failW s 3):=hid (addW_bad (failW_ne (by decide)))
  clear HU h
  go_enter Tryz.func211,Tryz.ntmps211
  go_wp2_with (first
   | (go_at_call 216;(refine HF.out.mono ?_);rintro e w1 ⟨rfl,h1,h2⟩;(have H1:=hid h1);(have H2:=hid h2);(have c1:w1.cell? ⟨pb,pj,none⟩=some (.int .i64 v):=((H2.out.any (OW.self W w) (nb:=pb) (J:=fun _=>False)).cell HPL.out HP.out pj id).trans hc);clear h1 h2)
   | (go_at_call 45;(refine (CP.out _).mono ?_);rintro e w2 ⟨A2,c2,rfl, -, -,hr2,hb2⟩;(have HR2:=hid hr2);(have HB2:=hid hb2);clear hr2 hb2)
   | (go_at_call 218;(refine (CA.out (failW s 3) _ A2 c2 HL.out (H1.out.below HB2.out) HR2.out).mono ?_);rintro e w3 ⟨rfl,h3,h4⟩;(have H3:=hid h3);(have H4:=hid h4);clear h3 h4))
  go_end0
  exact⟨rfl,HE.out ▸ H3.out,(H2.out.trans (H1.out.fr HB2.out (by have:=HN.out;have:=H1.out.lt;omega))).trans H4.out⟩
 ·by_cases hhi:most < v
  ·rw [if_pos (.inr hhi)]
   have b1:decide (v < 0)=false:=by simpa using hlo
   have b2:decide (most < v)=true:=by simpa using hhi
   have HE:Hid (addW (failW s 3) ds=failW s 3):=hid (addW_bad (failW_ne (by decide)))
   clear HU h
   go_enter Tryz.func211,Tryz.ntmps211
   go_wp2_with (first
    | (go_at_call 216;(refine HF.out.mono ?_);rintro e w1 ⟨rfl,h1,h2⟩;(have H1:=hid h1);(have H2:=hid h2);(have c1:w1.cell? ⟨pb,pj,none⟩=some (.int .i64 v):=((H2.out.any (OW.self W w) (nb:=pb) (J:=fun _=>False)).cell HPL.out HP.out pj id).trans hc);clear h1 h2)
    | (go_at_call 45;(refine (CP.out _).mono ?_);rintro e w2 ⟨A2,c2,rfl, -, -,hr2,hb2⟩;(have HR2:=hid hr2);(have HB2:=hid hb2);clear hr2 hb2)
    | (go_at_call 218;(refine (CA.out (failW s 3) _ A2 c2 HL.out (H1.out.below HB2.out) HR2.out).mono ?_);rintro e w3 ⟨rfl,h3,h4⟩;(have H3:=hid h3);(have H4:=hid h4);clear h3 h4))
   go_end0
   exact⟨rfl,HE.out ▸ H3.out,(H2.out.trans (H1.out.fr HB2.out (by have:=HN.out;have:=H1.out.lt;omega))).trans H4.out⟩
  ·rw [if_neg (by omega)]
   have b1:decide (v < 0)=false:=by simpa using hlo
   have b2:decide (most < v)=false:=by simpa using hhi
   have HE:Hid (digZ v=ds):=hid (by rw [← HU.out (by omega)];exact HDS.out)
   clear HU h
   go_enter Tryz.func211,Tryz.ntmps211
   go_wp2_with (first
    | (go_at_call 45;(refine (CP.out _).mono ?_);rintro e w2 ⟨A2,c2,rfl, -, -,hr2,hb2⟩;(have HR2:=hid hr2);(have HB2:=hid hb2);clear hr2 hb2)
    | (go_at_call 218;(refine (CA.out s _ A2 c2 HL.out (HW.out.below HB2.out) HR2.out).mono ?_);rintro e w3 ⟨rfl,h3,h4⟩;(have H3:=hid h3);(have H4:=hid h4);clear h3 h4))
   go_end0
   rw [HE.out]
   exact⟨rfl,H3.out,(HW.out.fr HB2.out (by have:=HN.out;have:=HW.out.lt;omega)).trans H4.out⟩
theorem wsml_to (N W:Nat) (s:WS) (z:Int) (pb pj:Nat) (w:World) (hz : -128≤z∧z≤127) (hl:s.1.length≤900000000) (hN:N≤W) (hc:w.cell? ⟨pb,pj,none⟩=some (.int .i8 z)) (h:WrAt W s w) :
  Calls Tryz.prog 245 #[.pointer (some ⟨W,0,none⟩),.pointer (some ⟨pb,pj,none⟩)] w (GoesW N W (smlW s z) w):=by
 have HW:=hid h
 have HL:=hid hl
 have HN:=hid hN
 have HB0:=hid ((Below.refl w.heap.size w).alloc (le_refl _) (.cells #[.int .i8 z] 50))
 have CS:Hid (∀ wx:World,Kit.Rd wx wx.heap.size (some ⟨w.heap.size,0,none⟩) ([z].map (.int .i8))→Calls Tryz.prog 220 #[.slice (some ⟨w.heap.size,0,none⟩) 1 1] wx (Listed wx 1 [z % 256])) :=
  hid (fun wx hr=>small_to _ [z] 1 1 rfl (by omega) (fun q hq=>by simp at hq;subst hq;exact hz) wx (le_refl _) hr)
 have HR0:Hid (Kit.Rd (w.alloc (.cells #[.int .i8 z] 50)) (w.alloc (.cells #[.int .i8 z] 50)).heap.size (some ⟨w.heap.size,0,none⟩) ([z].map (.int .i8))):=hid (Kit.Rd.new w [.int .i8 z] 50 (by simp))
 clear h hl hN hz
 unfold GoesW smlW
 go_enter Tryz.func245,Tryz.ntmps245
 go_wp2_with (first
  | (go_at_call 220;(refine (CS.out _ HR0.out).mono ?_);rintro e w2 ⟨A2,c2,rfl, -, -,hr2,hb2⟩;(have HR2:=hid hr2);(have HB2:=hid (HB0.out.trans (hb2.mono HB0.out.size)));clear hr2 hb2)
  | (go_at_call 218;(refine (wadd_to N W s [z % 256] A2 1 c2 rfl _ HR2.out (by have:=HL.out;omega) (by omega) HN.out (HW.out.below HB2.out)).mono ?_);rintro e w3 ⟨rfl,h3,h4⟩;(have H3:=hid h3);(have H4:=hid h4);clear h3 h4))
 go_end0
 exact⟨rfl,H3.out,(HW.out.fr HB2.out (by have:=HN.out;have:=HW.out.lt;omega)).trans H4.out⟩
theorem Rw.own {P:Nat→Prop} {O:World→Nat→Prop} {nb mb:Nat} {w:World} {A:Option Addr} {xs:List Value} (h:Rw P O nb w A xs) (hm:O w mb):Rw P O mb w A xs :=
 ⟨h.rd,fun hx ad hA=>⟨fun e=>(h.apart hx ad hA).2 (e ▸ hm),(h.apart hx ad hA).2⟩,h.wh⟩
theorem Rw.grow {P:Nat→Prop} {O:World→Nat→Prop} {nb:Nat} {w w':World} {A:Option Addr} {xs:List Value} (h:Rw P O nb w A xs) (hb:Below w.heap.size w w') (hO:∀ k,k < w.heap.size→¬ O w k→¬ O w' k):Rw P O nb w' A xs :=
 h.fr (Fr.of_below (N:=0) (J:=fun _=>True) hb (Nat.zero_le _) hO)
theorem OW.stay {W:Nat} {s:WS} {w w':World} (h:WrAt W s w) (hb:Below w.heap.size w w'):∀ k,k < w.heap.size→¬ OW W w k→¬ OW W w' k:=fun k _ ho q=>ho ((OW.keep (hb.block W h.lt) k).1 q)
theorem OW.new {W:Nat} {s:WS} {w w':World} (h:WrAt W s w) (hb:Below w.heap.size w w') {k:Nat} (hk:w.heap.size≤k):¬ OW W w' k:=fun q=>by
 have:=h.own_lt ((OW.keep (hb.block W h.lt) k).1 q)
 omega
theorem numW_ok {s:WS} {v most:Int} (h:(numW s v most).2=0):s.2=0∧0≤v∧v≤most∧numW s v most=(s.1 ++ digZ v,0):=by
 unfold numW at h ⊢
 by_cases q:v < 0∨most < v
 ·rw [if_pos q] at h;exact absurd h (failW_ne (by decide))
 ·rw [if_neg q] at h ⊢
  have h0:s.2=0:=by unfold addW at h;exact h
  refine⟨h0,by omega,by omega,?_⟩
  unfold addW;rw [if_pos h0,h0]
theorem wlist8_to (N W:Nat) (s:WS) (xs:List Int) (A:Option Addr) (n c:Nat) (hn:xs.length=n) (hx:I8r xs) (w:World) (hl:s.1.length≤800000000) (hn1:n≤1000000) (hN:N≤W) (hr:Rw PT (OW W) W w A (xs.map (.int .i8))) (h:WrAt W s w) :
  Calls Tryz.prog 219 #[.pointer (some ⟨W,0,none⟩),.slice A n c,.func (.func 220) #[] #[]] w (GoesW N W (wtsW s xs) w):=by
 have HW:=hid h
 have HL:=hid hl
 have HN:=hid hN
 have HX:=hid (And.intro hn hx)
 have HR:=hid hr
 unfold GoesW wtsW
 rw [hn]
 obtain⟨t,ht⟩:∃ t,numW s (n:Int) 16384=t:=⟨_,rfl⟩
 rw [ht]
 have HT:Hid (t.2=0→n≤16384):=hid (fun q=>by have:=(numW_ok (ht ▸ q)).2.2.1;omega)
 have HTL:Hid (t.1.length≤900000000):=hid (by have:=zbt (s:=s) (v:=(n:Int)) (most:=16384) (by omega);rw [ht] at this;omega)
 have HB1:=hid ((Below.refl w.heap.size w).alloc (le_refl _) (.cells #[.int .i64 (n:Int)] 3))
 have CN:Hid (∀ (wx:World),wx.cell? ⟨w.heap.size,0,none⟩=some (.int .i64 (n:Int))→Below w.heap.size w wx→Calls Tryz.prog 211 #[.pointer (some ⟨W,0,none⟩),.pointer (some ⟨w.heap.size,0,none⟩),.int .i64 16384] wx (GoesW N W t wx)) :=
  hid (fun wx hc hb=>by
   have q:=wnum_to N W s (n:Int) 16384 w.heap.size 0 wx (by omega) (by omega) hN hc (OW.new h hb (le_refl _)) (h.below hb)
   rwa [ht] at q)
 clear h hl hN hr hn ht hx
 go_enter Tryz.func219,Tryz.ntmps219
 go_upto_region 1 with fail
 have c0:(w.alloc (.cells #[.int .i64 (n:Int)] 3)).cell? ⟨w.heap.size,0,none⟩=some (.int .i64 (n:Int)):=Kit.zab _ _ _ 0
 generalize w.alloc (.cells #[.int .i64 (n:Int)] 3)=W0 at HB1 c0 ⊢
 have HR0:=hid (HR.out.grow HB1.out (OW.stay HW.out HB1.out))
 have HF0:=hid (HW.out.fr HB1.out (N:=N) (nb:=W) (J:=fun _=>True) (by have:=HN.out;have:=HW.out.lt;omega))
 go_upto_region 2 with (go_at_call 211;(refine (CN.out _ c0 HB1.out).mono ?_);rintro e w1 ⟨rfl,h1,h2⟩;(have H1:=hid h1);(have H2:=hid h2);clear h1 h2 c0)
 have HR1:=hid (HR0.out.fr H2.out)
 have HF1:=hid (HF0.out.trans H2.out)
 obtain⟨v1,q1,q2,q3,q4,q5⟩:=H1.out
 clear q5
 by_cases h0:t.2=0
 ·rw [h0] at q2
  have HTN:=hid (HT.out h0)
  have H0:=hid h0
  clear h0
  have CS:Hid (Calls Tryz.prog 220 #[.slice A n c] w1 (Listed w1 (n) (za6 xs))) :=
   hid (small_to A xs n c HX.out.1 (by have:=HTN.out;omega) HX.out.2 w1 (le_refl _) HR1.out.rd)
  have HEL:Hid ((za6 xs).length=n∧(za6 xs).length≤200000):=hid (⟨by simp [za6,HX.out.1],by have:=HX.out.1;have:=HTN.out;simp [za6];omega⟩)
  go_wp2_with (first
   | (go_at_call 220;(refine CS.out.mono ?_);rintro e w2 ⟨A2,c2,rfl, -, -,hr2,hb2⟩;(have HR2:=hid hr2);(have HB2:=hid hb2);clear hr2 hb2)
   | (go_at_call 218;(refine (wadd_to N W t (za6 xs) A2 n c2 HEL.out.1 _ HR2.out (by have:=HTL.out;omega) (by have:=HEL.out;omega) HN.out (H1.out.below HB2.out)).mono ?_);rintro e w3 ⟨rfl,h3,h4⟩;(have H3:=hid h3);(have H4:=hid h4);clear h3 h4))
  go_end0
  try rw [if_pos H0.out]
  exact⟨rfl,H3.out,(HF1.out.trans (H1.out.fr HB2.out (by have:=HN.out;have:=H1.out.lt;omega))).trans H4.out⟩
 ·have h6:(t.2 == 0)=false:=by simpa using h0
  have H6:=hid h0
  clear h0
  go_wp2_with fail
  go_end0
  try rw [if_neg H6.out]
  exact⟨rfl,H1.out,HF1.out⟩
theorem wwts_to (N W:Nat) (s:WS) (xs:List Int) (A:Option Addr) (n c:Nat) (pb pj:Nat) (hn:xs.length=n) (hx:I8r xs) (w:World) (hl:s.1.length≤800000000) (hn1:n≤1000000) (hN:N≤W) (hr:Rw PT (OW W) W w A (xs.map (.int .i8))) (hc:w.cell? ⟨pb,pj,none⟩=some (.slice A n c)) (h:WrAt W s w) :
  Calls Tryz.prog 213 #[.pointer (some ⟨W,0,none⟩),.pointer (some ⟨pb,pj,none⟩)] w (GoesW N W (wtsW s xs) w):=by
 have CL:=hid (wlist8_to N W s xs A n c hn hx w hl hn1 hN hr h)
 clear h hl hN hr hn hx
 unfold GoesW at *
 go_enter Tryz.func213,Tryz.ntmps213
 go_wp2_with (go_at_call 219;(refine CL.out.mono ?_);rintro e w1 ⟨rfl,h1,h2⟩;(have H1:=hid h1);(have H2:=hid h2);clear h1 h2)
 go_end0
 exact⟨rfl,H1.out,H2.out⟩
theorem wlist32_to (N W:Nat) (s:WS) (xs:List Int) (A:Option Addr) (n c:Nat) (hn:xs.length=n) (hx:I32s xs) (w:World) (hl:s.1.length≤800000000) (hn1:n≤1000000) (hN:N≤W) (hr:Rw PT (OW W) W w A (xs.map (.int .i32))) (h:WrAt W s w) :
  Calls Tryz.prog 214 #[.pointer (some ⟨W,0,none⟩),.slice A n c,.func (.func 215) #[] #[]] w (GoesW N W (bisW s xs) w):=by
 have HW:=hid h
 have HL:=hid hl
 have HN:=hid hN
 have HX:=hid (And.intro hn hx)
 have HR:=hid hr
 unfold GoesW bisW
 rw [hn]
 obtain⟨t,ht⟩:∃ t,numW s (n:Int) 16384=t:=⟨_,rfl⟩
 rw [ht]
 have HT:Hid (t.2=0→n≤16384):=hid (fun q=>by have:=(numW_ok (ht ▸ q)).2.2.1;omega)
 have HTL:Hid (t.1.length≤900000000):=hid (by have:=zbt (s:=s) (v:=(n:Int)) (most:=16384) (by omega);rw [ht] at this;omega)
 have HB1:=hid ((Below.refl w.heap.size w).alloc (le_refl _) (.cells #[.int .i64 (n:Int)] 3))
 have CN:Hid (∀ (wx:World),wx.cell? ⟨w.heap.size,0,none⟩=some (.int .i64 (n:Int))→Below w.heap.size w wx→Calls Tryz.prog 211 #[.pointer (some ⟨W,0,none⟩),.pointer (some ⟨w.heap.size,0,none⟩),.int .i64 16384] wx (GoesW N W t wx)) :=
  hid (fun wx hc hb=>by
   have q:=wnum_to N W s (n:Int) 16384 w.heap.size 0 wx (by omega) (by omega) hN hc (OW.new h hb (le_refl _)) (h.below hb)
   rwa [ht] at q)
 clear h hl hN hr hn ht hx
 go_enter Tryz.func214,Tryz.ntmps214
 go_upto_region 1 with fail
 have c0:(w.alloc (.cells #[.int .i64 (n:Int)] 3)).cell? ⟨w.heap.size,0,none⟩=some (.int .i64 (n:Int)):=Kit.zab _ _ _ 0
 generalize w.alloc (.cells #[.int .i64 (n:Int)] 3)=W0 at HB1 c0 ⊢
 have HR0:=hid (HR.out.grow HB1.out (OW.stay HW.out HB1.out))
 have HF0:=hid (HW.out.fr HB1.out (N:=N) (nb:=W) (J:=fun _=>True) (by have:=HN.out;have:=HW.out.lt;omega))
 go_upto_region 2 with (go_at_call 211;(refine (CN.out _ c0 HB1.out).mono ?_);rintro e w1 ⟨rfl,h1,h2⟩;(have H1:=hid h1);(have H2:=hid h2);clear h1 h2 c0)
 have HR1:=hid (HR0.out.fr H2.out)
 have HF1:=hid (HF0.out.trans H2.out)
 obtain⟨v1,q1,q2,q3,q4,q5⟩:=H1.out
 clear q5
 by_cases h0:t.2=0
 ·rw [h0] at q2
  have HTN:=hid (HT.out h0)
  have H0:=hid h0
  clear h0
  have CS:Hid (Calls Tryz.prog 215 #[.slice A n c] w1 (Listed w1 ((encZ xs).length) (encZ xs))) :=
   hid (wide_to A xs n c HX.out.1 (by have:=HTN.out;omega) HX.out.2 _ rfl w1 (le_refl _) HR1.out.rd)
  have HEL:Hid ((encZ xs).length=(encZ xs).length∧(encZ xs).length≤200000):=hid (⟨rfl,by have:=(encZ_len xs HX.out.2).2;have:=HX.out.1;have:=HTN.out;omega⟩)
  obtain⟨k,hk⟩:∃ k,(encZ xs).length=k:=⟨_,rfl⟩
  rw [hk] at CS
  replace HEL:=hid (And.intro hk HEL.out.2)
  clear hk
  go_wp2_with (first
   | (go_at_call 215;(refine CS.out.mono ?_);rintro e w2 ⟨A2,c2,rfl, -, -,hr2,hb2⟩;(have HR2:=hid hr2);(have HB2:=hid hb2);clear hr2 hb2)
   | (go_at_call 218;(refine (wadd_to N W t (encZ xs) A2 k c2 HEL.out.1 _ HR2.out (by have:=HTL.out;omega) (by have:=HEL.out;omega) HN.out (H1.out.below HB2.out)).mono ?_);rintro e w3 ⟨rfl,h3,h4⟩;(have H3:=hid h3);(have H4:=hid h4);clear h3 h4))
  go_end0
  try rw [if_pos H0.out]
  exact⟨rfl,H3.out,(HF1.out.trans (H1.out.fr HB2.out (by have:=HN.out;have:=H1.out.lt;omega))).trans H4.out⟩
 ·have h6:(t.2 == 0)=false:=by simpa using h0
  have H6:=hid h0
  clear h0
  go_wp2_with fail
  go_end0
  try rw [if_neg H6.out]
  exact⟨rfl,H1.out,HF1.out⟩
theorem wbis_to (N W:Nat) (s:WS) (xs:List Int) (A:Option Addr) (n c:Nat) (pb pj:Nat) (hn:xs.length=n) (hx:I32s xs) (w:World) (hl:s.1.length≤800000000) (hn1:n≤1000000) (hN:N≤W) (hr:Rw PT (OW W) W w A (xs.map (.int .i32))) (hc:w.cell? ⟨pb,pj,none⟩=some (.slice A n c)) (h:WrAt W s w) :
  Calls Tryz.prog 208 #[.pointer (some ⟨W,0,none⟩),.pointer (some ⟨pb,pj,none⟩)] w (GoesW N W (bisW s xs) w):=by
 have CL:=hid (wlist32_to N W s xs A n c hn hx w hl hn1 hN hr h)
 clear h hl hN hr hn hx
 unfold GoesW at *
 go_enter Tryz.func208,Tryz.ntmps208
 go_wp2_with (go_at_call 214;(refine CL.out.mono ?_);rintro e w1 ⟨rfl,h1,h2⟩;(have H1:=hid h1);(have H2:=hid h2);clear h1 h2)
 go_end0
 exact⟨rfl,H1.out,H2.out⟩
def sizW (s:WS) (n most:Int):Int × WS:=if most < n then (0,failW s 4) else (n,numW s n most)
theorem wsize_to (N W:Nat) (s:WS) (n most:Int) (w:World) (hv:0≤n∧n≤9223372036854775807) (hl:s.1.length≤800000000) (hN:N≤W) (h:WrAt W s w) :
  Calls Tryz.prog 212 #[.pointer (some ⟨W,0,none⟩),.int .i64 n,.int .i64 most] w fun e w'=>e=.returned (.int .i64 (sizW s n most).1)∧WrAt W (sizW s n most).2 w'∧Fr (OW W) N W (fun _=>True) w w':=by
 have HW:=hid h
 have HB1:=hid ((Below.refl w.heap.size w).alloc (le_refl _) (.cells #[.int .i64 n] 3))
 have HF0:=hid (h.fr HB1.out (N:=N) (nb:=W) (J:=fun _=>True) (by have:=h.lt;omega))
 have CF:=hid (wfail_to N W s 4 _ hN (h.below HB1.out))
 have c0:(w.alloc (.cells #[.int .i64 n] 3)).cell? ⟨w.heap.size,0,none⟩=some (.int .i64 n):=Kit.zab _ _ _ 0
 have ho:=OW.new h HB1.out (le_refl _)
 have CN:=hid (wnum_to N W s n most w.heap.size 0 _ (by omega) (by omega) hN c0 ho (h.below HB1.out))
 unfold GoesW at CN
 unfold sizW
 clear h hl hN
 have hlt:w.heap.size < (w.alloc (.cells #[.int .i64 n] 3)).heap.size:=by simp
 have HO:=hid (And.intro hlt ho)
 clear hlt ho
 by_cases hm:most < n
 ·rw [if_pos hm]
  have b1:decide (most < n)=true:=by simpa using hm
  clear hm
  go_enter Tryz.func212,Tryz.ntmps212
  go_upto_region 1 with fail
  generalize w.alloc (.cells #[.int .i64 n] 3)=W0 at HB1 HF0 CF c0 CN HO ⊢
  go_wp2_with (go_at_call 216;(refine CF.out.mono ?_);rintro e w1 ⟨rfl,h1,h2⟩;(have H1:=hid h1);(have H2:=hid h2);clear h1 h2)
  go_ret
  exact⟨rfl,H1.out,HF0.out.trans H2.out⟩
 ·rw [if_neg hm]
  have b1:decide (most < n)=false:=by simpa using hm
  clear hm
  go_enter Tryz.func212,Tryz.ntmps212
  go_upto_region 1 with fail
  generalize w.alloc (.cells #[.int .i64 n] 3)=W0 at HB1 HF0 CF c0 CN HO ⊢
  go_wp2_with (go_at_call 211;(refine CN.out.mono ?_);rintro e w1 ⟨rfl,h1,h2⟩;(have c1:w1.cell? ⟨w.heap.size,0,none⟩=some (.int .i64 n):=((h2.any (OW.self W _) (nb:=w.heap.size) (J:=fun _=>False)).cell HO.out.1 HO.out.2 0 id).trans c0);(have H1:=hid h1);(have H2:=hid h2);clear h1 h2)
  go_ret
  exact⟨rfl,H1.out,HF0.out.trans H2.out⟩
end CPk
end
section
namespace CPk
open LebNum CLeb COctet CKind CPack
def b01 (b:Bool):Int:=if b=true then 1 else 0
def ownN (k:Int) (kd na:Int) (A:Option Addr) (c:Nat) (A2:Option Addr) (c2:Nat):Nd :=
 ⟨kd,na,b01 (tB k),b01 (tW k),b01 (tW k),b01 (tW k || k == 8),b01 (tO k),b01 (tZ k),b01 (tB k),A,if tS k=true then 1 else 0,c,A2,if tS k=true then 1 else 0,c2,b01 (tQ k),b01 (tQ k),b01 (tQ k),b01 (tB k),b01 (tB k),0,b01 (tQ k),b01 (tQ k)⟩
def fullN (k:Int) (A A2:Option Addr):Nd:=⟨k,1,1,1,1,1,1,1,1,A,1,1,A2,1,1,1,1,1,1,1,1,1,1⟩
theorem own_full (k:Int) (h:zbr k=true) (A A2 B B2:Option Addr) (c c2:Nat):∃ kd na,(fullN k A A2).plainV B c B2 c2=ownN k kd na B c B2 c2:=by
 have h':1≤k∧k≤9:=by simpa [zbr] using h
 rcases (show k=1∨k=2∨k=3∨k=4∨k=5∨k=6∨k=7∨k=8∨k=9 by omega) with rfl | rfl | rfl | rfl | rfl | rfl | rfl | rfl | rfl <;> exact⟨_,_,rfl⟩
theorem own_zero (k:Int) (h:zbr k=false):∃ kd na,Nd.zero=ownN k kd na none 0 none 0:=by
 have h':¬ (1≤k∧k≤9):=by simpa [zbr] using h
 have e:∀ d:Int,1≤d→d≤9→(k == d)=false:=fun d h1 h2=>by simp;omega
 refine⟨0,0,?_⟩
 simp [ownN,tB,tW,tO,tZ,tQ,tS,e,b01,Nd.zero]
theorem full_to (k:Int) (w:World):Calls Tryz.prog 224 #[.int .i64 k] w fun e w'=>∃ A A2,e=.returned (.agg (fullN k A A2).val)∧Kit.Rd w' w'.heap.size A [.int .i8 1]∧Kit.Rd w' w'.heap.size A2 [.int .i32 1]∧Below w.heap.size w w':=by
 go_enter Tryz.func224,Tryz.ntmps224
 go_upto_region 1 with fail
 have HR:Hid (NdBox w.heap.size Nd.zero (w.alloc (.cells Nd.zero.val 54))):=hid (NdBox.new Nd.zero 54 w)
 have HB:=hid ((Below.refl w.heap.size w).alloc (le_refl _) (.cells Nd.zero.val 54))
 have HS:Hid ((w.alloc (.cells Nd.zero.val 54)).heap.size=w.heap.size+1):=hid (by simp)
 generalize h:w.alloc (.cells Nd.zero.val 54)=W0 at HR HB HS
 rw [show w.alloc (Obj.cells #[.int .i64 0,.int .i64 0,.int .i64 0,.int .i64 0,.int .i64 0,.int .i64 0,.int .i64 0,.int .i8 0,.int .i8 0,.slice none 0 0,.slice none 0 0,.int .i32 0,.int .i64 0,.int .i8 0,.int .i32 0,.int .i64 0,.int .i8 0,.int .i8 0,.int .i8 0] 54)=W0 from h]
 clear h
 go_upto_region 2 with fail
 have HQ:Hid ((W0.alloc (.cells #[.int .i32 1,.int .i64 1,.int .i8 1] 52)).rangeAt W0.heap.size 0 [.int .i32 1,.int .i64 1,.int .i8 1]):=hid (fun j v hj=>by rw [Nat.zero_add,Kit.zab];simpa using hj)
 have HB1:=hid ((Below.refl W0.heap.size W0).alloc (le_refl _) (.cells #[.int .i32 1,.int .i64 1,.int .i8 1] 52))
 have HS1:Hid ((W0.alloc (.cells #[.int .i32 1,.int .i64 1,.int .i8 1] 52)).heap.size=W0.heap.size+1):=hid (by simp)
 generalize hq:W0.heap.size=q at *
 generalize W0.alloc (.cells #[.int .i32 1,.int .i64 1,.int .i8 1] 52)=W1 at HQ HB1 HS1 ⊢
 have HQ1:Hid (∀ o,(W1.alloc o).rangeAt q 0 [.int .i32 1,.int .i64 1,.int .i8 1]∧∀ o',((W1.alloc o).alloc o').rangeAt q 0 [.int .i32 1,.int .i64 1,.int .i8 1]):=hid (fun o =>
  have b1:Below W1.heap.size W1 (W1.alloc o):=(Below.refl _ _).alloc (le_refl _) _
  ⟨fun j v hj=>(b1.cell (p:=⟨q,0+j,none⟩) (by show q < _;have:=HS1.out;omega)).trans (HQ.out j v hj),fun o' j v hj=>(((b1.alloc b1.size o')).cell (p:=⟨q,0+j,none⟩) (by show q < _;have:=HS1.out;omega)).trans (HQ.out j v hj)⟩)
 have hz1:W1.heap.size=w.heap.size+2:=by have:=HS.out;have:=HS1.out;omega
 have bA:Below W1.heap.size W1 (W1.alloc (.cells #[.int .i8 1] 50)):=(Below.refl _ _).alloc (le_refl _) _
 have bB:Below W1.heap.size W1 ((W1.alloc (.cells #[.int .i8 1] 50)).alloc (.cells #[.int .i32 1] 21)):=bA.alloc bA.size _
 have HR2:Hid (NdBox w.heap.size Nd.zero ((W1.alloc (.cells #[.int .i8 1] 50)).alloc (.cells #[.int .i32 1] 21))):=hid ((HR.out.below (B:=q) (by have:=HS.out;omega) HB1.out).below (B:=W1.heap.size) (by omega) bB)
 have HBB:Hid (Below w.heap.size w ((W1.alloc (.cells #[.int .i8 1] 50)).alloc (.cells #[.int .i32 1] 21))):=hid (HB.out.trans ((HB1.out.mono (by have:=HS.out;omega)).trans (bB.mono (by omega))))
 have HO8:Hid (((W1.alloc (.cells #[.int .i8 1] 50)).alloc (.cells #[.int .i32 1] 21)).ownsRow (w.heap.size+1) 50 1 (.slice (some ⟨W1.heap.size,0,none⟩) 1 1) 1 [.int .i8 1]):=hid ((World.ownsRow_lit W1 #[.int .i8 1] 1 (by omega) (by unfold maxLen;omega) rfl).alloc _)
 have HO32:Hid (((W1.alloc (.cells #[.int .i8 1] 50)).alloc (.cells #[.int .i32 1] 21)).ownsRow (w.heap.size+1) 21 1 (.slice (some ⟨W1.heap.size+1,0,none⟩) 1 1) 1 [.int .i32 1]):=hid (by
  have:=World.ownsRow_lit (e:=21) (size:=1) (base:=w.heap.size+1) (W1.alloc (.cells #[.int .i8 1] 50)) #[.int .i32 1] 1 (by simp;omega) (by unfold maxLen;omega) rfl
  simpa using this)
 clear bA bB hz1
 go_wp2_with (first
  | (refine wpList_load_mid rfl 52 (.tmp 3) rfl q 0 rfl [.int .i32 1,.int .i64 1,.int .i8 1] _ ((HQ1.out _).2 _) Tryz.underlying52 rfl (by kernel_rfl) ?_)
  | (refine nd_store_own rfl (.tmp 2) (.tmp 10) rfl w.heap.size Nd.zero (fullN k (some ⟨W1.heap.size,0,none⟩) (some ⟨W1.heap.size+1,0,none⟩)) rfl (by first | rfl | (go_simp;rfl) | simp [fullN,Nd.val]) HR2.out ?_;rintro W2 hp hb1 hs1 ho1))
 refine bodyPost_ret (za1 rfl _ _ w.heap.size (fullN k (some ⟨W1.heap.size,0,none⟩) (some ⟨W1.heap.size+1,0,none⟩)) rfl hp.1) rfl ?_
 refine⟨_,_,rfl,?_,?_,HBB.out.trans hb1⟩
 ·obtain⟨A,c,e, -, -,hr⟩:=Kit.za2 (ho1 _ _ _ _ _ _ (lt_succ_self _) HO8.out)
  cases e;exact hr
 ·obtain⟨A,c,e, -, -,hr⟩:=Kit.za2 (ho1 _ _ _ _ _ _ (lt_succ_self _) HO32.out)
  cases e;exact hr
theorem own_plain (k:Int) (A A2:Option Addr) (w:World) (hT:zad w) (h1:Kit.Rd w w.heap.size A [.int .i8 1]) (h2:Kit.Rd w w.heap.size A2 [.int .i32 1]) :
  Calls Tryz.prog 223 #[.agg (fullN k A A2).val] w fun e w'=>∃ kd na B c B2 c2,e=.returned (.agg (ownN k kd na B c B2 c2).val)∧Below w.heap.size w w':=by
 by_cases hk:zbr k=true
 ·refine (plain_yes (fullN k A A2) hk (keepL k [1]) (keepL k [1]) (own_lenW (fullN k A A2) [1] rfl) (by have:=own_leW (fullN k A A2);have e:(fullN k A A2).nW=1:=rfl;omega) (own_lenB (fullN k A A2) [1] rfl) (by have:=own_leB (fullN k A A2);have e:(fullN k A A2).nB=1:=rfl;omega) w (own_rdW (fullN k A A2) [1] h1) (le_refl _) (own_rdB (fullN k A A2) [1] h2) (le_refl _) hT).mono ?_
  rintro e w' ⟨B,c,B2,c2,rfl,hb, -, -⟩
  obtain⟨kd,na,he⟩:=own_full k hk A A2 B B2 c c2
  rw [he]
  exact⟨kd,na,B,c,B2,c2,rfl,hb⟩
 ·have hk':zbr k=false:=by simpa using hk
  refine (plain_no (fullN k A A2) hk' w hT).mono ?_
  rintro e w' ⟨rfl,hb⟩
  obtain⟨kd,na,he⟩:=own_zero k hk'
  rw [he]
  exact⟨kd,na,none,0,none,0,rfl,hb⟩
end CPk
end
end Go.Proofs.YtfgdfignoakkaaaGreatDoor
