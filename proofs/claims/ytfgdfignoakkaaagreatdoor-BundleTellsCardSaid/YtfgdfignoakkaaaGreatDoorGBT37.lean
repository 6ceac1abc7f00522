/- -/
import Derived.Test.YtfgdfignoakkaaaGreatDoorGBT36
open Go.Lib (hid)
open Nat (le_refl lt_of_succ_lt lt_succ_self)
set_option linter.unusedVariables false
set_option linter.unusedSimpArgs false
set_option maxRecDepth 100000
set_option maxHeartbeats 16000000
namespace Go.Proofs.YtfgdfignoakkaaaGreatDoor
namespace CKind
end CKind
namespace CLeb
end CLeb
namespace COctet
end COctet
namespace CPack
end CPack
open Go Go.ChangeShapes Go.WideShapes Go.ChangeAt Go.RowKit Go.Deep
section
namespace CPkW
open LebNum CLeb COctet CKind CPack CPk
def nodeF (p:PS):PS:=fldF (failW p.1 p.2.1.checkZ,p.2)
theorem nd_rangeO {nb o:Nat} {x:Nd} {w:World} (h:NdO nb o x w):w.rangeAt nb o x.val.toList:=fun j v hj=>h.at j v hj
theorem lay_check (x:Nd) (WA:Option Addr) (nW cW:Nat) (BA:Option Addr) (nB cB:Nat) (hW:nW=x.nW) (hB:nB=x.nB):(ndLay x WA nW cW BA nB cB).checkZ=x.checkZ:=by
 subst hW;subst hB
 unfold ndLay
 rfl
theorem lay_small (x:Nd) (h:NBd x) (WA:Option Addr) (nW cW:Nat) (BA:Option Addr) (nB cB:Nat):(ndLay x WA nW cW BA nB cB).Small :=
 ⟨h.b8 7 (by unfold is8;omega),h.b8 8 (by unfold is8;omega),h.b8 17 (by unfold is8;omega),h.b8 18 (by unfold is8;omega)⟩
theorem wnode_to (N W nb o L:Nat) (p:PS) (w:World) (hM:1 < N) (hT:zad w) (hL:L≤600000000) (hl:p.2.2.1.length=p.2.1.nW∧p.2.2.2.length=p.2.1.nB) (h:Hold N W nb o L p w) :
  Calls Tryz.prog 210 #[.pointer (some ⟨W,0,none⟩),.pointer (some ⟨nb,o,none⟩)] w (Left N W nb o (L+4000000) (nodeF p) w):=by
 unfold Left nodeF
 obtain⟨WA,cW,BA,cB,n1,n2,n3⟩:=h.nm
 have CK:=hid (zay (ndLay p.2.1 WA p.2.2.1.length cW BA p.2.2.2.length cB) (lay_small _ h.bd _ _ _ _ _ _) w hT)
 rw [lay_check _ _ _ _ _ _ _ hl.1 hl.2] at CK
 have HRG:=hid (nd_rangeO n1)
 have hvl:(ndLay p.2.1 WA p.2.2.1.length cW BA p.2.2.2.length cB).val=(ndLay p.2.1 WA p.2.2.1.length cW BA p.2.2.2.length cB).val.toList.toArray:=by simp
 obtain⟨vs,hvs⟩:∃ vs,(ndLay p.2.1 WA p.2.2.1.length cW BA p.2.2.2.length cB).val.toList=vs:=⟨_,rfl⟩
 have hlen:vs.length=19:=by rw [← hvs];rfl
 rw [hvs] at hvl HRG
 rw [hvl] at CK
 obtain⟨z,hz⟩:∃ z,p.2.1.checkZ=z:=⟨_,rfl⟩
 rw [hz] at CK ⊢
 have HI:Hid ((Tryz.prog.info? 54).map (·.size)=some vs.length):=hid (by rw [hlen];exact info_node)
 have HH:=hid h
 have HN:=hid (And.intro hM hT)
 have HLL:=hid hL
 clear n1 n2 n3 hvl hvs hlen hz hM hT hL h hl
 go_enter Tryz.func210,Tryz.ntmps210
 go_wp2_with (first
  | (refine wpList_load_mid rfl 54 (.tmp 6) rfl nb o rfl vs _ HRG.out Tryz.underlying54 rfl HI.out ?_)
  | (go_at_call 144;(refine CK.out.mono ?_);rintro e w1 ⟨rfl,hb⟩;(have HK1:=hid (HH.out.below hb));(have HF1:=hid (HH.out.fr (J:=Jn o) hb));clear hb)
  | (go_at_call 216;(refine (wfail_to N W p.1 z _ HK1.out.NW HK1.out.at_).mono ?_);rintro e w2 ⟨rfl,h1,h2⟩;(have HK2:=hid (HK1.out.on h1 h2 (L':=L) HK1.out.len));clear h1 h2)
  | (go_at_call 217;(refine (fields_to N W nb o L (failW p.1 z,p.2) _ HN.out.1 (HN.out.2.below ((HF1.out.trans (HK2.out.2 _)).below) HN.out.1) HLL.out HK2.out.1).mono ?_);rintro e w3 ⟨rfl,h1,h2⟩;(have HK3:=hid h1);(have HF3:=hid ((HF1.out.trans (HK2.out.2 _)).trans h2));clear h1 h2))
 go_end0
 exact⟨rfl,HK3.out,HF3.out⟩
/-! ### what is written -/
structure Adds (p q:WS) (b:List Int) (ok:Prop):Prop where
 yes:p.2=0→ok→q=(p.1 ++ b,0)
 no:p.2=0→¬ ok→q.2=3
 bad:p.2≠0→q.2=p.2
theorem Adds.trans {p q r:WS} {b c:List Int} {ok ok2:Prop} (h:Adds p q b ok) (k:Adds q r c ok2):Adds p r (b ++ c) (ok∧ok2) where
 yes h0 ho:=by
  have h1:=h.yes h0 ho.1
  have h2:=k.yes (by rw [h1]) ho.2
  rw [h2,h1,List.append_assoc]
 no h0 ho:=by
  by_cases q1:ok
  ·have h1:=h.yes h0 q1
   exact k.no (by rw [h1]) (fun q2=>ho ⟨q1,q2⟩)
  ·have h1:=h.no h0 q1
   rw [k.bad (by rw [h1];decide),h1]
 bad h0:=by rw [k.bad (by rw [h.bad h0];exact h0),h.bad h0]
theorem Adds.num (s:WS) (v most:Int):Adds s (numW s v most) (digZ v) (0≤v∧v≤most) where
 yes h0 ho:=by unfold numW addW;rw [if_neg (by omega),if_pos h0,h0]
 no h0 ho:=by unfold numW failW;rw [if_pos (by omega)];simp [h0]
 bad h0:=by unfold numW failW addW;by_cases q:v < 0∨most < v <;> simp [q,h0]
theorem Adds.add (s:WS) (xs:List Int):Adds s (addW s xs) xs True where
 yes h0 _:=by unfold addW;rw [if_pos h0,h0]
 no _ ho:=(ho trivial).elim
 bad _:=rfl
theorem Adds.list (s:WS) (n:Int) (xs:List Int):Adds s (if (numW s n 16384).2=0 then addW (numW s n 16384) xs else numW s n 16384) (digZ n ++ xs) (0≤n∧n≤16384) where
 yes h0 ho:=by
  have h1:=(Adds.num s n 16384).yes h0 ho
  rw [if_pos (by rw [h1])]
  rw [(Adds.add _ xs).yes (by rw [h1]) trivial,h1,List.append_assoc]
 no h0 ho:=by
  have h1:=(Adds.num s n 16384).no h0 ho
  rw [if_neg (by rw [h1];decide)];exact h1
 bad h0:=by
  have h1:=(Adds.num s n 16384).bad h0
  rw [if_neg (by rw [h1];exact h0)];exact h1
theorem Adds.cnd {s q:WS} {xs:List Int} {ok:Prop} (b:Bool) (h:Adds s q xs ok):Adds s (if b=true then q else s) (pc b xs) (b=true→ok):=by
 cases b with
 | true=>exact⟨fun h0 ho=>h.yes h0 (ho rfl),fun h0 ho=>h.no h0 (fun q=>ho fun _=>q),h.bad⟩
 | false=>exact⟨fun h0 _=>by show s=_;rw [pc_f,List.append_nil, ← h0],fun _ ho=>(ho fun q=>by cases q).elim,fun _=>rfl⟩
end CPkW
end
section
namespace CPkW
open Go Go.ChangeShapes Go.WideShapes Go.ChangeAt Go.RowKit
open LebNum CLeb COctet CKind CPack CPk
theorem sN2 (k:Int) (j:Nat) (most:Int) (q:PS):(if flag k j=true then stN j most q else q).2=q.2:=by split <;> rfl
theorem sN1 (k:Int) (j:Nat) (most:Int) (q:PS):Adds q.1 (if flag k j=true then stN j most q else q).1 (pc (flag k j) (digZ (getI q.2.1 j))) (flag k j=true→0≤getI q.2.1 j∧getI q.2.1 j≤most):=by
 have h:=Adds.cnd (flag k j) (Adds.num q.1 (getI q.2.1 j) most)
 cases hf:flag k j <;> rw [hf] at h <;> exact h
theorem sml2 (k:Int) (j:Nat) (q:PS):(sml k j q).2=q.2:=by unfold sml;split <;> rfl
theorem sml1 (k:Int) (j:Nat) (q:PS):Adds q.1 (sml k j q).1 (pc (flag k j) [getI q.2.1 j % 256]) (flag k j=true→True):=by
 have h:=Adds.cnd (flag k j) (Adds.add q.1 [getI q.2.1 j % 256])
 unfold sml
 cases hf:flag k j <;> rw [hf] at h <;> exact h
theorem scl2 (k:Int) (t:Nat) (q:PS):(scl k t q).2=q.2:=by unfold scl;split <;> rfl
theorem scl1 (k:Int) (t:Nat) (q:PS):Adds q.1 (scl k t q).1 (pc (flag k (11+3 * t)) (digZ (getI q.2.1 (11+3 * t)) ++ digZ (getI q.2.1 (12+3 * t)))) (flag k (11+3 * t)=true→(0≤getI q.2.1 (11+3 * t)∧getI q.2.1 (11+3 * t)≤2147483647)∧(0≤getI q.2.1 (12+3 * t)∧getI q.2.1 (12+3 * t)≤62)):=by
 have h:=Adds.cnd (flag k (11+3 * t)) ((Adds.num q.1 (getI q.2.1 (11+3 * t)) 2147483647).trans (Adds.num _ (getI q.2.1 (12+3 * t)) 62))
 unfold scl
 cases hf:flag k (11+3 * t) <;> rw [hf] at h <;> exact h
theorem liW2 (k:Int) (q:PS):(liW k q).2=q.2:=by unfold liW;split <;> rfl
theorem liW1 (k:Int) (q:PS):Adds q.1 (liW k q).1 (pc (tS k) (digZ q.2.2.1.length ++ za6 q.2.2.1)) (tS k=true→0≤(q.2.2.1.length:Int)∧(q.2.2.1.length:Int)≤16384):=by
 have h:=Adds.cnd (tS k) (Adds.list q.1 q.2.2.1.length (za6 q.2.2.1))
 unfold liW
 cases hf:tS k <;> rw [hf] at h <;> exact h
theorem liB2 (k:Int) (q:PS):(liB k q).2=q.2:=by unfold liB;split <;> rfl
theorem liB1 (k:Int) (q:PS):Adds q.1 (liB k q).1 (pc (tS k) (digZ q.2.2.2.length ++ encZ q.2.2.2)) (tS k=true→0≤(q.2.2.2.length:Int)∧(q.2.2.2.length:Int)≤16384):=by
 have h:=Adds.cnd (tS k) (Adds.list q.1 q.2.2.2.length (encZ q.2.2.2))
 unfold liB
 cases hf:tS k <;> rw [hf] at h <;> exact h
theorem zer_sml (k:Int) (t:Nat) (q:PS):zer k t q=sml k (13+3 * t) q:=rfl
theorem fld2 (p:PS):(fldF p).2=p.2:=by
 unfold fldF two two two five five five five five five
 simp only [zer_sml,sml2,scl2,liB2,liW2,sN2]
 rfl
theorem five2 (k:Int) (q:PS):∀ t,(five k t q).2=q.2
 | 0=>rfl
 | t+1=>(sN2 k (2+t) 1024 (five k t q)).trans (five2 k q t)
theorem five1 (k:Int) (t:Nat) (q:PS):Adds (five k t q).1 (five k (t+1) q).1 (pc (flag k (2+t)) (digZ (getI q.2.1 (2+t)))) (flag k (2+t)=true→0≤getI q.2.1 (2+t)∧getI q.2.1 (2+t)≤1024):=by
 have h:=sN1 k (2+t) 1024 (five k t q)
 rw [five2] at h
 exact h
def fldBy (x:Nd) (ws bs:List Int):List Int:=((digZ x.kd ++ digZ x.na) ++ (pc (tB x.kd) (digZ x.nb) ++ (pc (tW x.kd) (digZ x.K) ++ (pc (tW x.kd) (digZ x.S) ++ (pc (tW x.kd || x.kd == 8) (digZ x.P) ++ (pc (tO x.kd) (digZ x.O) ++ (pc (tZ x.kd) [x.Z % 256] ++ (pc (tB x.kd) [x.Y % 256] ++ (pc (tS x.kd) (digZ ws.length ++ za6 ws) ++ (pc (tS x.kd) (digZ bs.length ++ encZ bs) ++ (pc (tQ x.kd) (digZ x.m1 ++ digZ x.s1) ++ (pc (tQ x.kd) [x.z1 % 256] ++ (pc (tB x.kd) (digZ x.m2 ++ digZ x.s2) ++ (pc false [x.z2 % 256] ++ (pc (tQ x.kd) [x.lo % 256] ++ pc (tQ x.kd) [x.hi % 256])))))))))))))))
def fldOk (x:Nd) (ws bs:List Int):Prop:=(((0≤x.kd∧x.kd≤9)∧(0≤x.na∧x.na≤1024))∧((tB x.kd=true→0≤x.nb∧x.nb≤1024)∧((tW x.kd=true→0≤x.K∧x.K≤1024)∧((tW x.kd=true→0≤x.S∧x.S≤1024)∧(((tW x.kd || x.kd == 8)=true→0≤x.P∧x.P≤1024)∧((tO x.kd=true→0≤x.O∧x.O≤1024)∧((tZ x.kd=true→True)∧((tB x.kd=true→True)∧((tS x.kd=true→0≤(ws.length:Int)∧(ws.length:Int)≤16384)∧((tS x.kd=true→0≤(bs.length:Int)∧(bs.length:Int)≤16384)∧((tQ x.kd=true→(0≤x.m1∧x.m1≤2147483647)∧(0≤x.s1∧x.s1≤62))∧((tQ x.kd=true→True)∧((tB x.kd=true→(0≤x.m2∧x.m2≤2147483647)∧(0≤x.s2∧x.s2≤62))∧((false=true→True)∧((tQ x.kd=true→True)∧(tQ x.kd=true→True))))))))))))))))
theorem fld_adds (p:PS):Adds p.1 (fldF p).1 (fldBy p.2.1 p.2.2.1 p.2.2.2) (fldOk p.2.1 p.2.2.1 p.2.2.2):=by
 obtain⟨s,x,ws,bs⟩:=p
 dsimp only
 obtain⟨r,hr⟩:∃ r,(fldF (s,x,ws,bs)).1=r:=⟨_,rfl⟩
 obtain⟨k,hk⟩:∃ k,x.kd=k:=⟨_,rfl⟩
 obtain⟨q0,hq0⟩:∃ q0,stN 1 1024 (stN 0 9 (s,x,ws,bs))=q0:=⟨_,rfl⟩
 have e0:q0.2=(x,ws,bs):=hq0 ▸ rfl
 have A1:Adds s q0.1 (digZ x.kd ++ digZ x.na) ((0≤x.kd∧x.kd≤9)∧(0≤x.na∧x.na≤1024)):=by
  rw [← hq0];exact (Adds.num s x.kd 9).trans (Adds.num _ x.na 1024)
 have hf:fldF (s,x,ws,bs)=sml k 18 (sml k 17 (sml k 16 (scl k 1 (sml k 13 (scl k 0 (liB k (liW k (sml k 8 (sml k 7 (five k 5 q0)))))))))):=by
  rw [← hq0, ← hk];rfl
 have hg:=hr
 rw [hf] at hr
 have B0:=five1 k 0 q0
 have B1:=five1 k 1 q0
 have B2:=five1 k 2 q0
 have B3:=five1 k 3 q0
 have B4:=five1 k 4 q0
 rw [e0] at B0 B1 B2 B3 B4
 have e5:=(five2 k q0 5).trans e0
 obtain⟨q5,hq5⟩:∃ q,five k 5 q0=q:=⟨_,rfl⟩
 rw [hq5] at e5 hr B4
 have B5:=sml1 k 7 q5
 have e6:=(sml2 k 7 q5).trans e5
 rw [e5] at B5
 obtain⟨q6,hq6⟩:∃ q,sml k 7 q5=q:=⟨_,rfl⟩
 rw [hq6] at e6 hr B5
 have B6:=sml1 k 8 q6
 have e7:=(sml2 k 8 q6).trans e6
 rw [e6] at B6
 obtain⟨q7,hq7⟩:∃ q,sml k 8 q6=q:=⟨_,rfl⟩
 rw [hq7] at e7 hr B6
 have B7:=liW1 k q7
 have e8:=(liW2 k q7).trans e7
 rw [e7] at B7
 obtain⟨q8,hq8⟩:∃ q,liW k q7=q:=⟨_,rfl⟩
 rw [hq8] at e8 hr B7
 have B8:=liB1 k q8
 have e9:=(liB2 k q8).trans e8
 rw [e8] at B8
 obtain⟨q9,hq9⟩:∃ q,liB k q8=q:=⟨_,rfl⟩
 rw [hq9] at e9 hr B8
 have B9:=scl1 k 0 q9
 have e10:=(scl2 k 0 q9).trans e9
 rw [e9] at B9
 obtain⟨q10,hq10⟩:∃ q,scl k 0 q9=q:=⟨_,rfl⟩
 rw [hq10] at e10 hr B9
 have B10:=sml1 k 13 q10
 have e11:=(sml2 k 13 q10).trans e10
 rw [e10] at B10
 obtain⟨q11,hq11⟩:∃ q,sml k 13 q10=q:=⟨_,rfl⟩
 rw [hq11] at e11 hr B10
 have B11:=scl1 k 1 q11
 have e12:=(scl2 k 1 q11).trans e11
 rw [e11] at B11
 obtain⟨q12,hq12⟩:∃ q,scl k 1 q11=q:=⟨_,rfl⟩
 rw [hq12] at e12 hr B11
 have B12:=sml1 k 16 q12
 have e13:=(sml2 k 16 q12).trans e12
 rw [e12] at B12
 obtain⟨q13,hq13⟩:∃ q,sml k 16 q12=q:=⟨_,rfl⟩
 rw [hq13] at e13 hr B12
 have B13:=sml1 k 17 q13
 have e14:=(sml2 k 17 q13).trans e13
 rw [e13] at B13
 obtain⟨q14,hq14⟩:∃ q,sml k 17 q13=q:=⟨_,rfl⟩
 rw [hq14] at e14 hr B13
 have B14:=sml1 k 18 q14
 rw [e14,hr] at B14
 have A:=A1.trans (B0.trans (B1.trans (B2.trans (B3.trans (B4.trans (B5.trans (B6.trans (B7.trans (B8.trans (B9.trans (B10.trans (B11.trans (B12.trans (B13.trans B14))))))))))))))
 clear A1 B0 B1 B2 B3 B4 B5 B6 B7 B8 B9 B10 B11 B12 B13 B14 e0 e5 e6 e7 e8 e9 e10 e11 e12 e13 e14 hq0 hq5 hq6 hq7 hq8 hq9 hq10 hq11 hq12 hq13 hq14 hf
 rw [hg]
 subst hk
 exact A
end CPkW
end
end Go.Proofs.YtfgdfignoakkaaaGreatDoor
