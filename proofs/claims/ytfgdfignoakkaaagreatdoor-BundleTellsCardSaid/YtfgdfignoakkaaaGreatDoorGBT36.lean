/- -/
import Derived.Test.YtfgdfignoakkaaaGreatDoorGBT35
open Go.Lib (hid)
open Nat (le_refl lt_of_succ_lt lt_succ_self)
set_option linter.unusedVariables false
set_option linter.unusedSimpArgs false
set_option maxRecDepth 100000
set_option maxHeartbeats 16000000
namespace Go.Proofs.YtfgdfignoakkaaaGreatDoor
namespace CKind
end CKind
namespace CLeb
end CLeb
namespace COctet
end COctet
namespace CPack
end CPack
open Go Go.ChangeShapes Go.WideShapes Go.ChangeAt Go.RowKit Go.Deep
section
namespace CPkW
open LebNum CLeb COctet CKind CPack CPk
def five (k:Int):Nat→PS→PS
 | 0,p=>p
 | t+1,p=>if flag k (2+t)=true then stN (2+t) 1024 (five k t p) else five k t p
def scl (k:Int) (t:Nat) (p:PS):PS:=if flag k (11+3 * t)=true then stN (12+3 * t) 62 (stN (11+3 * t) 2147483647 p) else p
def zer (k:Int) (t:Nat) (p:PS):PS:=if flag k (13+3 * t)=true then stS (13+3 * t) p else p
def two (k:Int):Nat→PS→PS
 | 0,p=>p
 | t+1,p=>zer k t (scl k t (two k t p))
def sml (k:Int) (j:Nat) (p:PS):PS:=if flag k j=true then stS j p else p
def liW (k:Int) (p:PS):PS:=if tS k=true then stW p else p
def liB (k:Int) (p:PS):PS:=if tS k=true then stB p else p
def fldF (p:PS):PS :=
 sml (stN 0 9 p).2.1.kd 18 (sml (stN 0 9 p).2.1.kd 17 (two (stN 0 9 p).2.1.kd 2 (liB (stN 0 9 p).2.1.kd (liW (stN 0 9 p).2.1.kd (sml (stN 0 9 p).2.1.kd 8 (sml (stN 0 9 p).2.1.kd 7 (five (stN 0 9 p).2.1.kd 5 (stN 1 1024 (stN 0 9 p)))))))))
theorem mth_number (n : Nat) (P : Option Addr) (w : World) : Sem.run Tryz.prog (method (n + 1) 134 (.pointer P) "stepwell/pack.number") w = .ok (211, .pointer P) w := by first | rfl | kernel_rfl
theorem mth_weights (n : Nat) (P : Option Addr) (w : World) : Sem.run Tryz.prog (method (n + 1) 134 (.pointer P) "stepwell/pack.weights") w = .ok (213, .pointer P) w := by first | rfl | kernel_rfl
theorem mth_biases (n : Nat) (P : Option Addr) (w : World) : Sem.run Tryz.prog (method (n + 1) 134 (.pointer P) "stepwell/pack.biases") w = .ok (208, .pointer P) w := by first | rfl | kernel_rfl
theorem Kit.range_at2 {w:World} {b o:Nat} {x y:Value} (h0:w.cell? ⟨b,o,none⟩=some x) (h1:w.cell? ⟨b,o+1,none⟩=some y):w.rangeAt b o [x,y]:=by
 intro j v hj
 match j,hj with
 | 0,hj=>simpa [← hj] using h0
 | 1,hj=>simpa [← hj] using h1
theorem range_sub {w:World} {b:Nat} {l:List Value} (h:w.rangeAt b 0 l) (o:Nat) (cs r:List Value) (hl:l.drop o=cs ++ r):w.rangeAt b o cs:=fun j v hj=>by
 have q:(l.drop o)[j]?=some v:=by
  rw [hl,List.getElem?_append_left]
  ·exact hj
  ·exact (List.getElem?_eq_some_iff.1 hj).1
 rw [List.getElem?_drop] at q
 have:=h (o+j) v q
 rwa [Nat.zero_add] at this
theorem zaf {w:World} {b:Nat} {vs:List Value} (h:w.rangeAt b 0 vs) (j:Nat) (v:Value) (hv:vs[j]?=some v):w.cell? ⟨b,j,none⟩=some v:=by
 have:=h j v hv
 rwa [Nat.zero_add] at this
theorem fields_to (N W nb o L:Nat) (p:PS) (w:World) (hM:1 < N) (hT:zad w) (hL:L≤600000000) (h:Hold N W nb o L p w) :
  Calls Tryz.prog 217 #[.iface 134 (.pointer (some ⟨W,0,none⟩)),.pointer (some ⟨nb,o,none⟩)] w (Left N W nb o (L+4000000) (fldF p) w):=by
 unfold Left fldF
 have hal:Below w.heap.size w (w.alloc (.cells #[.iface 134 (.pointer (some ⟨W,0,none⟩))] 137)):=(Below.refl _ _).alloc (le_refl _) _
 have HK:=hid (h.below hal)
 have HF:=hid (h.fr (J:=Jn o) hal)
 have hnw:=h.new hal (le_refl _)
 have HBX:Hid (Bxd (OW W) nb w.heap.size [.iface 134 (.pointer (some ⟨W,0,none⟩))] (w.alloc (.cells #[.iface 134 (.pointer (some ⟨W,0,none⟩))] 137))):=hid ⟨fun j v hj=>by rw [Nat.zero_add,Kit.zab];simpa using hj,by simp,hnw.2,hnw.1⟩
 have HN:=hid hT
 have HL:=hid (And.intro hL hM)
 obtain⟨p1,hp1⟩:∃ p1,stN 0 9 p=p1:=⟨_,rfl⟩
 obtain⟨k,hk⟩:∃ k,p1.2.1.kd=k:=⟨_,rfl⟩
 obtain⟨p2,hp2⟩:∃ p2,stN 1 1024 p1=p2:=⟨_,rfl⟩
 rw [hp1,hk,hp2]
 have HP:=hid (And.intro hp1 (And.intro hk hp2))
 clear hp1 hk hp2 h hT hL hM hnw hal
 go_enter Tryz.func217,Tryz.ntmps217
 go_upto_region 1 with fail
 generalize hbc:w.heap.size=bc at *
 generalize w.alloc (.cells #[.iface 134 (.pointer (some ⟨W,0,none⟩))] 137)=W0 at HK HF HBX ⊢
 refine wp_region_held_drew (S:=fun wx=>wx.rangeAt bc 0 [.iface 134 (.pointer (some ⟨W,0,none⟩))]) (by kernel_rfl) HBX.out.cells (fun hHeld=>?_)
 have HKd:=hid (HK.out.below ((Below.refl W0.heap.size W0).drew))
 have HFd:=hid (HF.out.trans (HK.out.fr ((Below.refl W0.heap.size W0).drew)))
 have HBXd:=hid (HBX.out.fr (HK.out.fr (J:=Jn o) ((Below.refl W0.heap.size W0).drew)))
 clear HK HF HBX
 generalize W0.drew=X0 at hHeld HKd HFd HBXd ⊢
 have HK:=hid HKd.out
 have HF:=hid HFd.out
 have HBX:=hid HBXd.out
 clear HKd HFd HBXd
 refine Tk.y 0 (v:=.iface 134 (.pointer (some ⟨W,0,none⟩))) rfl ?_ ?_
 ·intro wS hSw
  have q:=zaf hSw 0 _ rfl
  first | (go_simp;done) | (go_simp;with_reducible rfl)
 try simp only [Tk.put]
 refine Tk.x 1 rfl ?_
 try simp only [Tk.put]
 refine Tk.x 2 rfl ?_
 try simp only [Tk.put]
 refine Tk.x 3 rfl ?_
 try simp only [Tk.put]
 refine Tk.x 4 rfl ?_
 try simp only [Tk.put]
 refine Tk.y 5 (v := .func (.method "stepwell/pack.number") #[.iface 134 (.pointer (some ⟨W, 0, none⟩))] #[]) rfl ?_ ?_
 ·intro wS hSw
  first | (go_simp;done) | (go_simp;with_reducible rfl) | kernel_rfl
 try simp only [Tk.put]
 refine Tk.x 6 rfl ?_
 try simp only [Tk.put]
 refine Tk.s 7 rfl (fun Kq hK=>?_)
 go_simp
 rw [mth_number]
 go_simp
 go_at_call 211
 refine (vnum N W nb o L 0 9 p _ (by unfold is64;omega) (by decide) (by decide) (by have:=HL.out;omega) HK.out).mono ?_
 rintro e Y1 ⟨rfl,hk,hf⟩
 replace HF:=hid (HF.out.trans hf)
 replace HBX:=hid (HBX.out.fr hf)
 replace HK:=hid hk
 clear hk hf hHeld
 refine hK.out _ _ HBX.out.cells (fun hHeld=>?_)
 clear hK Kq
 try simp only [Tk.put]
 refine wpAnyH_done (by kernel_rfl) ?_ _
 clear hHeld
 rw [HP.out.1] at HK
 have ckd:Y1.cell? ⟨nb,o,none⟩=some (.int .i64 k):=by
  obtain⟨WA,cW,BA,cB,n1,n2,n3⟩:=HK.out.nm
  have q:=n1.at 0 _ (ndg64 _ _ _ _ _ _ _ (.inl rfl))
  rwa [show getI p1.2.1 0=k from HP.out.2.1] at q
 obtain⟨vB,hvB⟩:∃ v,b01 (tB k)=v:=⟨_,rfl⟩
 obtain⟨vW,hvW⟩:∃ v,b01 (tW k)=v:=⟨_,rfl⟩
 obtain⟨vP,hvP⟩:∃ v,b01 (tW k || k == 8)=v:=⟨_,rfl⟩
 obtain⟨vO,hvO⟩:∃ v,b01 (tO k)=v:=⟨_,rfl⟩
 obtain⟨vZ,hvZ⟩:∃ v,b01 (tZ k)=v:=⟨_,rfl⟩
 obtain⟨vQ,hvQ⟩:∃ v,b01 (tQ k)=v:=⟨_,rfl⟩
 obtain⟨nS,hnS⟩:∃ v,(if tS k=true then 1 else 0:Nat)=v:=⟨_,rfl⟩
 have CPL:Hid (∀ (A A2:Option Addr) (wx:World),zad wx→Kit.Rd wx wx.heap.size A [.int .i8 1]→Kit.Rd wx wx.heap.size A2 [.int .i32 1]→Calls Tryz.prog 223 #[.agg (fullN k A A2).val] wx fun e w'=>∃ kd na B1 c1 B2 c2,e=.returned (.agg #[.int .i64 kd,.int .i64 na,.int .i64 vB,.int .i64 vW,.int .i64 vW,.int .i64 vP,.int .i64 vO,.int .i8 vZ,.int .i8 vB,.slice B1 nS c1,.slice B2 nS c2,.int .i32 vQ,.int .i64 vQ,.int .i8 vQ,.int .i32 vB,.int .i64 vB,.int .i8 0,.int .i8 vQ,.int .i8 vQ])∧Below wx.heap.size wx w') :=
  hid (fun A A2 wx hT h1 h2=>(own_plain k A A2 wx hT h1 h2).mono fun e w' ⟨kd,na,B1,c1,B2,c2,q1,q2⟩=>by
   unfold ownN Nd.val at q1
   rw [hvB,hvW,hvP,hvO,hvZ,hvQ,hnS] at q1
   exact⟨kd,na,B1,c1,B2,c2,q1,q2⟩)
 have HV:=hid (And.intro hvB (And.intro hvW (And.intro hvP (And.intro hvO (And.intro hvZ (And.intro hvQ hnS))))))
 clear hvB hvW hvP hvO hvZ hvQ hnS
 have HT1:Hid (zad Y1):=hid (HN.out.below HF.out.below HL.out.2)
 go_upto_region 3 with (first
  | (go_at_call 224;(refine (full_to k _).mono ?_);rintro e w2 ⟨A,A2,rfl,hr1,hr2,hb⟩;(have HR1:=hid (And.intro hr1 hr2));(have HB1:=hid hb);clear hr1 hr2 hb)
  | (go_at_call 223;(refine (CPL.out _ _ _ (HT1.out.grown HB1.out) HR1.out.1 HR1.out.2).mono ?_);rintro e w3 ⟨kd,na,B1,c1,B2,c2,rfl,hb⟩;(have HB2:=hid (HB1.out.trans (hb.mono HB1.out.size)));clear hb)
  | (refine zaq rfl (.tmp 4) (.tmp 23) rfl w3.heap.size Nd.zero ⟨kd,na,vB,vW,vW,vP,vO,vZ,vB,B1,nS,c1,B2,nS,c2,vQ,vQ,vQ,vB,vB,0,vQ,vQ⟩ rfl rfl (NdBox.new Nd.zero 54 w3) ?_;rintro W4 hp hb1 hs1))
 have hbA:Below Y1.heap.size Y1 W4:=HB2.out.trans (((Below.refl w3.heap.size w3).alloc (le_refl _) _).mono HB2.out.size |>.trans (hb1.mono HB2.out.size))
 have HOW:Hid (Bxd (OW W) nb w3.heap.size [.int .i64 kd,.int .i64 na,.int .i64 vB,.int .i64 vW,.int .i64 vW,.int .i64 vP,.int .i64 vO,.int .i8 vZ,.int .i8 vB,.slice B1 nS c1,.slice B2 nS c2,.int .i32 vQ,.int .i64 vQ,.int .i8 vQ,.int .i32 vB,.int .i64 vB,.int .i8 0,.int .i8 vQ,.int .i8 vQ] W4):=hid ⟨hp.1,by rw [hs1];simp,(HK.out.new hbA HB2.out.size).2,(HK.out.new hbA HB2.out.size).1⟩
 replace HF:=hid (HF.out.trans (HK.out.fr hbA))
 replace HBX:=hid (HBX.out.fr (HK.out.fr (J:=Jn o) hbA))
 replace HK:=hid (HK.out.below hbA)
 generalize w3.heap.size=bo at HOW ⊢
 clear hbA hp hb1 hs1 HB1 HB2 HR1 HT1 ckd CPL HN
 refine wp_region_held_drew (S:=fun wx=>wx.rangeAt bc 0 [.iface 134 (.pointer (some ⟨W,0,none⟩))]) (by kernel_rfl) HBX.out.cells (fun hHeld=>?_)
 have HKd:=hid (HK.out.below ((Below.refl W4.heap.size W4).drew))
 have HFd:=hid (HF.out.trans (HK.out.fr ((Below.refl W4.heap.size W4).drew)))
 have HBXd:=hid (HBX.out.fr (HK.out.fr (J:=Jn o) ((Below.refl W4.heap.size W4).drew)))
 have HOWd:=hid (HOW.out.fr (HK.out.fr (J:=Jn o) ((Below.refl W4.heap.size W4).drew)))
 clear HK HF HBX HOW
 generalize W4.drew=X1 at hHeld HKd HFd HBXd HOWd ⊢
 have HK:=hid HKd.out
 have HF:=hid HFd.out
 have HBX:=hid HBXd.out
 have HOW:=hid HOWd.out
 clear HKd HFd HBXd HOWd
 refine Tk.y 0 (v:=.iface 134 (.pointer (some ⟨W,0,none⟩))) rfl ?_ ?_
 ·intro wS hSw
  have q:=zaf hSw 0 _ rfl
  first | (go_simp;done) | (go_simp;with_reducible rfl)
 try simp only [Tk.put]
 refine Tk.x 1 rfl ?_
 try simp only [Tk.put]
 refine Tk.x 2 rfl ?_
 try simp only [Tk.put]
 refine Tk.x 3 rfl ?_
 try simp only [Tk.put]
 refine Tk.x 4 rfl ?_
 try simp only [Tk.put]
 refine Tk.y 5 (v := .func (.method "stepwell/pack.number") #[.iface 134 (.pointer (some ⟨W, 0, none⟩))] #[]) rfl ?_ ?_
 ·intro wS hSw
  first | (go_simp;done) | (go_simp;with_reducible rfl) | kernel_rfl
 try simp only [Tk.put]
 refine Tk.x 6 rfl ?_
 try simp only [Tk.put]
 refine Tk.s 7 rfl (fun Kq hK=>?_)
 go_simp
 rw [mth_number]
 go_simp
 go_at_call 211
 refine (vnum N W nb o _ 1 1024 p1 _ (by unfold is64;omega) (by decide) (by decide) (by have:=HL.out;omega) HK.out).mono ?_
 rintro e Y2 ⟨rfl,hk,hf⟩
 replace HF:=hid (HF.out.trans hf)
 replace HBX:=hid (HBX.out.fr hf)
 replace HOW:=hid (HOW.out.fr hf)
 replace HK:=hid hk
 clear hk hf hHeld
 refine hK.out _ _ HBX.out.cells (fun hHeld=>?_)
 clear hK Kq
 try simp only [Tk.put]
 refine wpAnyH_done (by kernel_rfl) ?_ _
 clear hHeld
 rw [HP.out.2.2] at HK
 go_upto_region 4 with fail
 refine wp_region_held_drew (S:=fun wx=>wx.rangeAt bo 0 [.int .i64 kd,.int .i64 na,.int .i64 vB,.int .i64 vW,.int .i64 vW,.int .i64 vP,.int .i64 vO,.int .i8 vZ,.int .i8 vB,.slice B1 nS c1,.slice B2 nS c2,.int .i32 vQ,.int .i64 vQ,.int .i8 vQ,.int .i32 vB,.int .i64 vB,.int .i8 0,.int .i8 vQ,.int .i8 vQ]) (by kernel_rfl) HOW.out.cells (fun hHeld=>?_)
 have HKd:=hid (HK.out.below ((Below.refl Y2.heap.size Y2).drew))
 have HFd:=hid (HF.out.trans (HK.out.fr ((Below.refl Y2.heap.size Y2).drew)))
 have HBXd:=hid (HBX.out.fr (HK.out.fr (J:=Jn o) ((Below.refl Y2.heap.size Y2).drew)))
 have HOWd:=hid (HOW.out.fr (HK.out.fr (J:=Jn o) ((Below.refl Y2.heap.size Y2).drew)))
 clear HK HF HBX HOW
 generalize Y2.drew=X2 at hHeld HKd HFd HBXd HOWd ⊢
 have HK:=hid HKd.out
 have HF:=hid HFd.out
 have HBX:=hid HBXd.out
 have HOW:=hid HOWd.out
 clear HKd HFd HBXd HOWd
 refine Tk.x 0 rfl ?_
 try simp only [Tk.put]
 refine Tk.y 1 (v:=.int .i64 vB) rfl ?_ ?_
 ·intro wS hSw
  have q:=zaf hSw 2 _ rfl
  first | (go_simp;done) | (go_simp;with_reducible rfl)
 try simp only [Tk.put]
 refine Tk.x 2 rfl ?_
 try simp only [Tk.put]
 refine Tk.x 3 rfl ?_
 try simp only [Tk.put]
 refine Tk.x 4 rfl ?_
 try simp only [Tk.put]
 refine Tk.x 5 rfl ?_
 try simp only [Tk.put]
 refine Tk.x 6 rfl ?_
 try simp only [Tk.put]
 refine Tk.y 7 (v:=.int .i64 vW) rfl ?_ ?_
 ·intro wS hSw
  have q:=zaf hSw 3 _ rfl
  first | (go_simp;done) | (go_simp;with_reducible rfl)
 try simp only [Tk.put]
 refine Tk.x 8 rfl ?_
 try simp only [Tk.put]
 refine Tk.x 9 rfl ?_
 try simp only [Tk.put]
 refine Tk.x 10 rfl ?_
 try simp only [Tk.put]
 refine Tk.x 11 rfl ?_
 try simp only [Tk.put]
 refine Tk.x 12 rfl ?_
 try simp only [Tk.put]
 refine Tk.y 13 (v:=.int .i64 vW) rfl ?_ ?_
 ·intro wS hSw
  have q:=zaf hSw 4 _ rfl
  first | (go_simp;done) | (go_simp;with_reducible rfl)
 try simp only [Tk.put]
 refine Tk.x 14 rfl ?_
 try simp only [Tk.put]
 refine Tk.x 15 rfl ?_
 try simp only [Tk.put]
 refine Tk.x 16 rfl ?_
 try simp only [Tk.put]
 refine Tk.x 17 rfl ?_
 try simp only [Tk.put]
 refine Tk.x 18 rfl ?_
 try simp only [Tk.put]
 refine Tk.y 19 (v:=.int .i64 vP) rfl ?_ ?_
 ·intro wS hSw
  have q:=zaf hSw 5 _ rfl
  first | (go_simp;done) | (go_simp;with_reducible rfl)
 try simp only [Tk.put]
 refine Tk.x 20 rfl ?_
 try simp only [Tk.put]
 refine Tk.x 21 rfl ?_
 try simp only [Tk.put]
 refine Tk.x 22 rfl ?_
 try simp only [Tk.put]
 refine Tk.x 23 rfl ?_
 try simp only [Tk.put]
 refine Tk.x 24 rfl ?_
 try simp only [Tk.put]
 refine Tk.y 25 (v:=.int .i64 vO) rfl ?_ ?_
 ·intro wS hSw
  have q:=zaf hSw 6 _ rfl
  first | (go_simp;done) | (go_simp;with_reducible rfl)
 try simp only [Tk.put]
 refine Tk.x 26 rfl ?_
 try simp only [Tk.put]
 refine Tk.x 27 rfl ?_
 try simp only [Tk.put]
 refine Tk.x 28 rfl ?_
 try simp only [Tk.put]
 refine Tk.x 29 rfl ?_
 try simp only [Tk.put]
 refine Tk.x 32 rfl ?_
 try simp only [Tk.put]
 refine Tk.s 30 rfl (fun Kq hK=>?_)
 go_simp
 have hal:Below X2.heap.size X2 (X2.alloc (.cells #[.int .i64 vB,.pointer (some ⟨nb,o+2,none⟩),.int .i64 vW,.pointer (some ⟨nb,o+3,none⟩),.int .i64 vW,.pointer (some ⟨nb,o+4,none⟩),.int .i64 vP,.pointer (some ⟨nb,o+5,none⟩),.int .i64 vO,.pointer (some ⟨nb,o+6,none⟩)] 301)):=(Below.refl _ _).alloc (le_refl _) _
 have HSL:Hid (Bxd (OW W) nb X2.heap.size [.int .i64 vB,.pointer (some ⟨nb,o+2,none⟩),.int .i64 vW,.pointer (some ⟨nb,o+3,none⟩),.int .i64 vW,.pointer (some ⟨nb,o+4,none⟩),.int .i64 vP,.pointer (some ⟨nb,o+5,none⟩),.int .i64 vO,.pointer (some ⟨nb,o+6,none⟩)] (X2.alloc (.cells #[.int .i64 vB,.pointer (some ⟨nb,o+2,none⟩),.int .i64 vW,.pointer (some ⟨nb,o+3,none⟩),.int .i64 vW,.pointer (some ⟨nb,o+4,none⟩),.int .i64 vP,.pointer (some ⟨nb,o+5,none⟩),.int .i64 vO,.pointer (some ⟨nb,o+6,none⟩)] 301))):=hid ⟨fun j v hj=>by rw [Nat.zero_add,Kit.zab];simpa using hj,by simp,(HK.out.new hal (le_refl _)).2,(HK.out.new hal (le_refl _)).1⟩
 replace HF:=hid (HF.out.trans (HK.out.fr hal))
 replace HBX:=hid (HBX.out.fr (HK.out.fr (J:=Jn o) hal))
 replace HOW:=hid (HOW.out.fr (HK.out.fr (J:=Jn o) hal))
 replace HK:=hid (HK.out.below hal)
 clear hal hHeld
 generalize X2.heap.size=bs at HSL ⊢
 generalize X2.alloc (.cells #[.int .i64 vB,.pointer (some ⟨nb,o+2,none⟩),.int .i64 vW,.pointer (some ⟨nb,o+3,none⟩),.int .i64 vW,.pointer (some ⟨nb,o+4,none⟩),.int .i64 vP,.pointer (some ⟨nb,o+5,none⟩),.int .i64 vO,.pointer (some ⟨nb,o+6,none⟩)] 301)=Z1 at HK HF HSL HBX HOW ⊢
 refine hK.out _ _ HOW.out.cells (fun hHeld=>?_)
 clear hK Kq
 try simp only [Tk.put]
 refine Tk.x 31 rfl ?_
 try simp only [Tk.put]
 refine wpAnyH_done (by kernel_rfl) ?_ _
 clear hHeld
 go_wp2_with fail
 go_loopw [64] (fun i wr=>∃ t:Nat,t≤5∧i=.int .i64 t∧Hid (Hold N W nb o (L+400000+200000 * t) (five k t p2) wr)∧Hid (Fr (OW W) N nb (Jn o) w wr)∧Hid (Bxd (OW W) nb bc [.iface 134 (.pointer (some ⟨W,0,none⟩))] wr)∧Hid (Bxd (OW W) nb bo [.int .i64 kd,.int .i64 na,.int .i64 vB,.int .i64 vW,.int .i64 vW,.int .i64 vP,.int .i64 vO,.int .i8 vZ,.int .i8 vB,.slice B1 nS c1,.slice B2 nS c2,.int .i32 vQ,.int .i64 vQ,.int .i8 vQ,.int .i32 vB,.int .i64 vB,.int .i8 0,.int .i8 vQ,.int .i8 vQ] wr)∧Hid (Bxd (OW W) nb bs [.int .i64 vB,.pointer (some ⟨nb,o+2,none⟩),.int .i64 vW,.pointer (some ⟨nb,o+3,none⟩),.int .i64 vW,.pointer (some ⟨nb,o+4,none⟩),.int .i64 vP,.pointer (some ⟨nb,o+5,none⟩),.int .i64 vO,.pointer (some ⟨nb,o+6,none⟩)] wr)) (fun i _=>5 - (intOf i).toNat)
 case atStart=>exact⟨0,by omega,rfl,hid (HK.out.more (by omega)),HF,HBX,HOW,HSL⟩
 case round =>
  clear HK HF HBX HOW HSL
  obtain⟨t,ht,rfl,HK,HF,HBX,HOW,HSL⟩:=hrel
  by_cases htl:t < 5
  ·have hti:(t:Int) < 5:=by omega
   obtain⟨V,hV,hr⟩:∃ V,V=b01 (flag k (2+t))∧wr.rangeAt bs (t * 2) [.int .i64 V,.pointer (some ⟨nb,o+(2+t),none⟩)]:=by
    have q:=HSL.out.cells
    rcases (show t=0∨t=1∨t=2∨t=3∨t=4 by omega) with rfl | rfl | rfl | rfl | rfl
    ·exact⟨vB,HV.out.1.symm,Kit.range_at2 (zaf q 0 _ rfl) (zaf q 1 _ rfl)⟩
    ·exact⟨vW,HV.out.2.1.symm,Kit.range_at2 (zaf q 2 _ rfl) (zaf q 3 _ rfl)⟩
    ·exact⟨vW,HV.out.2.1.symm,Kit.range_at2 (zaf q 4 _ rfl) (zaf q 5 _ rfl)⟩
    ·exact⟨vP,HV.out.2.2.1.symm,Kit.range_at2 (zaf q 6 _ rfl) (zaf q 7 _ rfl)⟩
    ·exact⟨vO,HV.out.2.2.2.1.symm,Kit.range_at2 (zaf q 8 _ rfl) (zaf q 9 _ rfl)⟩
   have HVV:=hid hV
   clear hV
   go_upto_region 7 with (refine wpList_load_mid rfl 301 (.tmp 66) rfl bs _ rfl [.int .i64 V,.pointer (some ⟨nb,o+(2+t),none⟩)] _ (by first | exact hr | (rw [Nat.mul_comm];exact hr) | (rw [Nat.zero_add];exact hr)) Tryz.underlying301 rfl (by kernel_rfl) ?_)
   clear hr
   have hal:Below wr.heap.size wr (wr.alloc (.cells #[.int .i64 V,.pointer (some ⟨nb,o+(2+t),none⟩)] 301)):=(Below.refl _ _).alloc (le_refl _) _
   have e0:∀ j v,[.int .i64 V,.pointer (some ⟨nb,o+(2+t),none⟩)][j]?=some v→(wr.alloc (.cells #[.int .i64 V,.pointer (some ⟨nb,o+(2+t),none⟩)] 301)).cell? ⟨wr.heap.size,j,none⟩=some v:=fun j v hj=>by rw [Kit.zab];simpa using hj
   have HEL:Hid (Bxd (OW W) nb wr.heap.size [.int .i64 V,.pointer (some ⟨nb,o+(2+t),none⟩)] (wr.alloc (.cells #[.int .i64 V,.pointer (some ⟨nb,o+(2+t),none⟩)] 301))):=hid ⟨fun j v hj=>by rw [Nat.zero_add];exact e0 j v hj,by simp,(HK.out.new hal (le_refl _)).2,(HK.out.new hal (le_refl _)).1⟩
   replace HF:=hid (HF.out.trans (HK.out.fr hal))
   replace HBX:=hid (HBX.out.fr (HK.out.fr (J:=Jn o) hal))
   replace HOW:=hid (HOW.out.fr (HK.out.fr (J:=Jn o) hal))
   replace HSL:=hid (HSL.out.fr (HK.out.fr (J:=Jn o) hal))
   replace HK:=hid (HK.out.below hal)
   clear hal e0
   generalize wr.heap.size=be at HEL ⊢
   generalize wr.alloc (.cells #[.int .i64 V,.pointer (some ⟨nb,o+(2+t),none⟩)] 301)=Z2 at HK HF HEL HBX HOW HSL ⊢
   have e0:=HEL.out.at 0 _ rfl
   have e1:=HEL.out.at 1 _ rfl
   have b0:=HBX.out.at 0 _ rfl
   cases hfl:flag k (2+t) with
   | true =>
     have hV1:V=1:=by rw [HVV.out,hfl];rfl
     clear HVV
     subst hV1
     go_wp2_with (go_at_call 211;(refine (vnum N W nb o _ (2+t) 1024 _ _ (by unfold is64;omega) (by decide) (by decide) (by have:=HL.out;omega) HK.out).mono ?_);rintro e w5 ⟨rfl,hk5,hf5⟩;(have HK5:=hid hk5);(have HF5:=hid hf5);clear hk5 hf5)
     go_roundw
     case rel=>exact⟨t+1,by omega,by go_num,hid (by show Hold N W nb o _ (if flag k (2+t)=true then _ else _) _;rw [if_pos hfl];exact HK5.out.more (by omega)),hid (HF.out.trans HF5.out),hid (HBX.out.fr HF5.out),hid (HOW.out.fr HF5.out),hid (HSL.out.fr HF5.out)⟩
     case measure=>simp [intOf];omega
   | false =>
     have hV1:V=0:=by rw [HVV.out,hfl];rfl
     clear HVV
     subst hV1
     go_wp2_with fail
     go_roundw
     case rel=>exact⟨t+1,by omega,by go_num,hid (by show Hold N W nb o _ (if flag k (2+t)=true then _ else _) _;rw [if_neg (by simp [hfl])];exact HK.out.more (by omega)),HF,HBX,HOW,HSL⟩
     case measure=>simp [intOf];omega
  ·obtain rfl:t=5:=by omega
   clear htl ht
   obtain⟨p3,hp3⟩:∃ p3,five k 5 p2=p3:=⟨_,rfl⟩
   rw [hp3] at HK
   have HP3:=hid hp3
   clear hp3 HSL
   go_upto_region 11 with fail
   have HCL:Hid (∀ (j:Nat) (v:Int) (q:PS) (Lx:Nat) (wx:World),is8 j→b01 (flag k j)=v→Lx≤700000000→wx.cell? ⟨bc,0,none⟩=some (.iface 134 (.pointer (some ⟨W,0,none⟩)))→Hold N W nb o Lx q wx→Calls Tryz.prog 225 #[.int .i8 v,.pointer (some ⟨nb,o+j,none⟩),.pointer (some ⟨bc,0,none⟩)] wx (Left N W nb o (Lx+200000) (sml k j q) wx)) :=
    hid (fun j v q Lx wx h1 h2 h3 h4 h5=>by subst h2;exact vcls N W nb o Lx j q wx bc (flag k j) h1 h3 h4 h5)
   refine wp_region_held_drew (S:=fun wx=>wx.rangeAt bo 0 [.int .i64 kd,.int .i64 na,.int .i64 vB,.int .i64 vW,.int .i64 vW,.int .i64 vP,.int .i64 vO,.int .i8 vZ,.int .i8 vB,.slice B1 nS c1,.slice B2 nS c2,.int .i32 vQ,.int .i64 vQ,.int .i8 vQ,.int .i32 vB,.int .i64 vB,.int .i8 0,.int .i8 vQ,.int .i8 vQ]) (by kernel_rfl) HOW.out.cells (fun hHeld=>?_)
   have HKd:=hid (HK.out.below ((Below.refl wr.heap.size wr).drew))
   have HFd:=hid (HF.out.trans (HK.out.fr ((Below.refl wr.heap.size wr).drew)))
   have HBXd:=hid (HBX.out.fr (HK.out.fr (J:=Jn o) ((Below.refl wr.heap.size wr).drew)))
   have HOWd:=hid (HOW.out.fr (HK.out.fr (J:=Jn o) ((Below.refl wr.heap.size wr).drew)))
   clear HK HF HBX HOW
   generalize wr.drew=X2 at hHeld HKd HFd HBXd HOWd ⊢
   have HK:=hid HKd.out
   have HF:=hid HFd.out
   have HBX:=hid HBXd.out
   have HOW:=hid HOWd.out
   clear HKd HFd HBXd HOWd
   refine Tk.x 0 rfl ?_
   try simp only [Tk.put]
   refine Tk.x 1 rfl ?_
   try simp only [Tk.put]
   refine Tk.y 2 (v:=.int .i8 vZ) rfl ?_ ?_
   ·intro wS hSw
    have q:=zaf hSw 7 _ rfl
    first | (go_simp;done) | (go_simp;with_reducible rfl)
   try simp only [Tk.put]
   refine Tk.x 3 rfl ?_
   try simp only [Tk.put]
   refine Tk.x 4 rfl ?_
   try simp only [Tk.put]
   refine Tk.x 5 rfl ?_
   try simp only [Tk.put]
   refine Tk.s 6 rfl (fun Kq hK=>?_)
   go_simp
   go_at_call 225
   refine (HCL.out 7 vZ p3 _ _ (by unfold is8;omega) HV.out.2.2.2.2.1 (by have:=HL.out;omega) (zaf HBX.out.cells 0 _ rfl) HK.out).mono ?_
   rintro e Y3 ⟨rfl,hk,hf⟩
   replace HF:=hid (HF.out.trans hf)
   replace HBX:=hid (HBX.out.fr hf)
   replace HOW:=hid (HOW.out.fr hf)
   replace HK:=hid hk
   clear hk hf hHeld
   refine hK.out _ _ HOW.out.cells (fun hHeld=>?_)
   clear hK Kq
   try simp only [Tk.put]
   refine wpAnyH_done (by kernel_rfl) ?_ _
   clear hHeld
   go_upto_region 12 with fail
   obtain⟨p4,hp4⟩:∃ p4,sml k 7 p3=p4:=⟨_,rfl⟩
   rw [hp4] at HK
   have HP4:=hid hp4
   clear hp4
   refine wp_region_held_drew (S:=fun wx=>wx.rangeAt bo 0 [.int .i64 kd,.int .i64 na,.int .i64 vB,.int .i64 vW,.int .i64 vW,.int .i64 vP,.int .i64 vO,.int .i8 vZ,.int .i8 vB,.slice B1 nS c1,.slice B2 nS c2,.int .i32 vQ,.int .i64 vQ,.int .i8 vQ,.int .i32 vB,.int .i64 vB,.int .i8 0,.int .i8 vQ,.int .i8 vQ]) (by kernel_rfl) HOW.out.cells (fun hHeld=>?_)
   have HKd:=hid (HK.out.below ((Below.refl Y3.heap.size Y3).drew))
   have HFd:=hid (HF.out.trans (HK.out.fr ((Below.refl Y3.heap.size Y3).drew)))
   have HBXd:=hid (HBX.out.fr (HK.out.fr (J:=Jn o) ((Below.refl Y3.heap.size Y3).drew)))
   have HOWd:=hid (HOW.out.fr (HK.out.fr (J:=Jn o) ((Below.refl Y3.heap.size Y3).drew)))
   clear HK HF HBX HOW
   generalize Y3.drew=X3 at hHeld HKd HFd HBXd HOWd ⊢
   have HK:=hid HKd.out
   have HF:=hid HFd.out
   have HBX:=hid HBXd.out
   have HOW:=hid HOWd.out
   clear HKd HFd HBXd HOWd
   refine Tk.x 0 rfl ?_
   try simp only [Tk.put]
   refine Tk.x 1 rfl ?_
   try simp only [Tk.put]
   refine Tk.y 2 (v:=.int .i8 vB) rfl ?_ ?_
   ·intro wS hSw
    have q:=zaf hSw 8 _ rfl
    first | (go_simp;done) | (go_simp;with_reducible rfl)
   try simp only [Tk.put]
   refine Tk.x 3 rfl ?_
   try simp only [Tk.put]
   refine Tk.x 4 rfl ?_
   try simp only [Tk.put]
   refine Tk.x 5 rfl ?_
   try simp only [Tk.put]
   refine Tk.s 6 rfl (fun Kq hK=>?_)
   go_simp
   go_at_call 225
   refine (HCL.out 8 vB p4 _ _ (by unfold is8;omega) HV.out.1 (by have:=HL.out;omega) (zaf HBX.out.cells 0 _ rfl) HK.out).mono ?_
   rintro e Y4 ⟨rfl,hk,hf⟩
   replace HF:=hid (HF.out.trans hf)
   replace HBX:=hid (HBX.out.fr hf)
   replace HOW:=hid (HOW.out.fr hf)
   replace HK:=hid hk
   clear hk hf hHeld
   refine hK.out _ _ HOW.out.cells (fun hHeld=>?_)
   clear hK Kq
   try simp only [Tk.put]
   refine wpAnyH_done (by kernel_rfl) ?_ _
   clear hHeld
   obtain⟨p5,hp5⟩:∃ p5,sml k 8 p4=p5:=⟨_,rfl⟩
   rw [hp5] at HK
   have HP5:=hid hp5
   clear hp5
   have o0:=HOW.out.at 9 _ rfl
   go_upto_if 94 with fail
   clear o0
   go_cut [] from 95 to 102 (fun wx=>Hid (Hold N W nb o (L+400000+200000 * 5+200000+200000+200000) (liW k p5) wx)∧Hid (Fr (OW W) N nb (Jn o) w wx)∧Hid (Bxd (OW W) nb bc [.iface 134 (.pointer (some ⟨W,0,none⟩))] wx)∧Hid (Bxd (OW W) nb bo [.int .i64 kd,.int .i64 na,.int .i64 vB,.int .i64 vW,.int .i64 vW,.int .i64 vP,.int .i64 vO,.int .i8 vZ,.int .i8 vB,.slice B1 nS c1,.slice B2 nS c2,.int .i32 vQ,.int .i64 vQ,.int .i8 vQ,.int .i32 vB,.int .i64 vB,.int .i8 0,.int .i8 vQ,.int .i8 vQ] wx))
   case first =>
    cases hS:tS k with
    | false =>
      have hn0:nS=0:=by have q:=HV.out.2.2.2.2.2.2;rw [hS] at q;exact q.symm
      subst hn0
      go_wp2_with fail
      go_meet
      exact⟨hid (by unfold liW;rw [if_neg (by simp [hS])];exact HK.out.more (by omega)),HF,HBX,HOW⟩
    | true =>
      have hn1:nS=1:=by have q:=HV.out.2.2.2.2.2.2;rw [hS] at q;exact q.symm
      subst hn1
      go_upto_region 14 with fail
      refine wp_region_held_drew (S:=fun wx=>wx.rangeAt bc 0 [.iface 134 (.pointer (some ⟨W,0,none⟩))]) (by kernel_rfl) HBX.out.cells (fun hHeld=>?_)
      have HKd:=hid (HK.out.below ((Below.refl Y4.heap.size Y4).drew))
      have HFd:=hid (HF.out.trans (HK.out.fr ((Below.refl Y4.heap.size Y4).drew)))
      have HBXd:=hid (HBX.out.fr (HK.out.fr (J:=Jn o) ((Below.refl Y4.heap.size Y4).drew)))
      have HOWd:=hid (HOW.out.fr (HK.out.fr (J:=Jn o) ((Below.refl Y4.heap.size Y4).drew)))
      clear HK HF HBX HOW
      generalize Y4.drew=X4 at hHeld HKd HFd HBXd HOWd ⊢
      have HK:=hid HKd.out
      have HF:=hid HFd.out
      have HBX:=hid HBXd.out
      have HOW:=hid HOWd.out
      clear HKd HFd HBXd HOWd
      refine Tk.y 0 (v:=.iface 134 (.pointer (some ⟨W,0,none⟩))) rfl ?_ ?_
      ·intro wS hSw
       have q:=zaf hSw 0 _ rfl
       first | (go_simp;done) | (go_simp;with_reducible rfl)
      try simp only [Tk.put]
      refine Tk.x 1 rfl ?_
      try simp only [Tk.put]
      refine Tk.x 2 rfl ?_
      try simp only [Tk.put]
      refine Tk.x 3 rfl ?_
      try simp only [Tk.put]
      refine Tk.x 4 rfl ?_
      try simp only [Tk.put]
      refine Tk.y 5 (v := .func (.method "stepwell/pack.weights") #[.iface 134 (.pointer (some ⟨W, 0, none⟩))] #[]) rfl ?_ ?_
      ·intro wS hSw
       first | (go_simp;done) | (go_simp;with_reducible rfl) | kernel_rfl
      try simp only [Tk.put]
      refine Tk.x 6 rfl ?_
      try simp only [Tk.put]
      refine Tk.s 7 rfl (fun Kq hK=>?_)
      go_simp
      rw [mth_weights]
      go_simp
      go_at_call 213
      refine (vwts N W nb o _ p5 _ (by have:=HL.out;omega) HK.out).mono ?_
      rintro e Y5 ⟨rfl,hk,hf⟩
      replace HF:=hid (HF.out.trans hf)
      replace HBX:=hid (HBX.out.fr hf)
      replace HOW:=hid (HOW.out.fr hf)
      replace HK:=hid hk
      clear hk hf hHeld
      refine hK.out _ _ HBX.out.cells (fun hHeld=>?_)
      clear hK Kq
      try simp only [Tk.put]
      refine wpAnyH_done (by kernel_rfl) ?_ _
      clear hHeld
      go_wp2_with fail
      go_meet
      exact⟨hid (by unfold liW;rw [if_pos hS];exact HK.out.more (by omega)),HF,HBX,HOW⟩
   case rest =>
    clear HK HF HBX HOW
    obtain⟨HK,HF,HBX,HOW⟩:=hcut
    obtain⟨p6,hpn⟩:∃ p6,liW k p5=p6:=⟨_,rfl⟩
    rw [hpn] at HK
    have Hp6:=hid hpn
    clear hpn
    have o0:=HOW.out.at 10 _ rfl
    go_upto_if 106 with fail
    clear o0
    go_cut [] from 107 to 114 (fun wx=>Hid (Hold N W nb o (L+400000+200000 * 5+200000+200000+200000+200000) (liB k p6) wx)∧Hid (Fr (OW W) N nb (Jn o) w wx)∧Hid (Bxd (OW W) nb bc [.iface 134 (.pointer (some ⟨W,0,none⟩))] wx)∧Hid (Bxd (OW W) nb bo [.int .i64 kd,.int .i64 na,.int .i64 vB,.int .i64 vW,.int .i64 vW,.int .i64 vP,.int .i64 vO,.int .i8 vZ,.int .i8 vB,.slice B1 nS c1,.slice B2 nS c2,.int .i32 vQ,.int .i64 vQ,.int .i8 vQ,.int .i32 vB,.int .i64 vB,.int .i8 0,.int .i8 vQ,.int .i8 vQ] wx))
    case first =>
     cases hS:tS k with
     | false =>
       have hn0:nS=0:=by have q:=HV.out.2.2.2.2.2.2;rw [hS] at q;exact q.symm
       subst hn0
       go_wp2_with fail
       go_meet
       exact⟨hid (by unfold liB;rw [if_neg (by simp [hS])];exact HK.out.more (by omega)),HF,HBX,HOW⟩
     | true =>
       have hn1:nS=1:=by have q:=HV.out.2.2.2.2.2.2;rw [hS] at q;exact q.symm
       subst hn1
       go_upto_region 16 with fail
       refine wp_region_held_drew (S:=fun wx=>wx.rangeAt bc 0 [.iface 134 (.pointer (some ⟨W,0,none⟩))]) (by kernel_rfl) HBX.out.cells (fun hHeld=>?_)
       have HKd:=hid (HK.out.below ((Below.refl wc.heap.size wc).drew))
       have HFd:=hid (HF.out.trans (HK.out.fr ((Below.refl wc.heap.size wc).drew)))
       have HBXd:=hid (HBX.out.fr (HK.out.fr (J:=Jn o) ((Below.refl wc.heap.size wc).drew)))
       have HOWd:=hid (HOW.out.fr (HK.out.fr (J:=Jn o) ((Below.refl wc.heap.size wc).drew)))
       clear HK HF HBX HOW
       generalize wc.drew=X5 at hHeld HKd HFd HBXd HOWd ⊢
       have HK:=hid HKd.out
       have HF:=hid HFd.out
       have HBX:=hid HBXd.out
       have HOW:=hid HOWd.out
       clear HKd HFd HBXd HOWd
       refine Tk.y 0 (v:=.iface 134 (.pointer (some ⟨W,0,none⟩))) rfl ?_ ?_
       ·intro wS hSw
        have q:=zaf hSw 0 _ rfl
        first | (go_simp;done) | (go_simp;with_reducible rfl)
       try simp only [Tk.put]
       refine Tk.x 1 rfl ?_
       try simp only [Tk.put]
       refine Tk.x 2 rfl ?_
       try simp only [Tk.put]
       refine Tk.x 3 rfl ?_
       try simp only [Tk.put]
       refine Tk.x 4 rfl ?_
       try simp only [Tk.put]
       refine Tk.y 5 (v := .func (.method "stepwell/pack.biases") #[.iface 134 (.pointer (some ⟨W, 0, none⟩))] #[]) rfl ?_ ?_
       ·intro wS hSw
        first | (go_simp;done) | (go_simp;with_reducible rfl) | kernel_rfl
       try simp only [Tk.put]
       refine Tk.x 6 rfl ?_
       try simp only [Tk.put]
       refine Tk.s 7 rfl (fun Kq hK=>?_)
       go_simp
       rw [mth_biases]
       go_simp
       go_at_call 208
       refine (vbis N W nb o _ p6 _ (by have:=HL.out;omega) HK.out).mono ?_
       rintro e Y6 ⟨rfl,hk,hf⟩
       replace HF:=hid (HF.out.trans hf)
       replace HBX:=hid (HBX.out.fr hf)
       replace HOW:=hid (HOW.out.fr hf)
       replace HK:=hid hk
       clear hk hf hHeld
       refine hK.out _ _ HBX.out.cells (fun hHeld=>?_)
       clear hK Kq
       try simp only [Tk.put]
       refine wpAnyH_done (by kernel_rfl) ?_ _
       clear hHeld
       go_wp2_with fail
       go_meet
       exact⟨hid (by unfold liB;rw [if_pos hS];exact HK.out.more (by omega)),HF,HBX,HOW⟩
    case rest =>
     clear HK HF HBX HOW
     obtain⟨HK,HF,HBX,HOW⟩:=hcut
     obtain⟨p7,hpn⟩:∃ p7,liB k p6=p7:=⟨_,rfl⟩
     rw [hpn] at HK
     have Hp7:=hid hpn
     clear hpn
     go_upto_region 17 with fail
     refine wp_region_held_drew (S:=fun wx=>wx.rangeAt bo 0 [.int .i64 kd,.int .i64 na,.int .i64 vB,.int .i64 vW,.int .i64 vW,.int .i64 vP,.int .i64 vO,.int .i8 vZ,.int .i8 vB,.slice B1 nS c1,.slice B2 nS c2,.int .i32 vQ,.int .i64 vQ,.int .i8 vQ,.int .i32 vB,.int .i64 vB,.int .i8 0,.int .i8 vQ,.int .i8 vQ]) (by kernel_rfl) HOW.out.cells (fun hHeld=>?_)
     have HKd:=hid (HK.out.below ((Below.refl wc.heap.size wc).drew))
     have HFd:=hid (HF.out.trans (HK.out.fr ((Below.refl wc.heap.size wc).drew)))
     have HBXd:=hid (HBX.out.fr (HK.out.fr (J:=Jn o) ((Below.refl wc.heap.size wc).drew)))
     have HOWd:=hid (HOW.out.fr (HK.out.fr (J:=Jn o) ((Below.refl wc.heap.size wc).drew)))
     clear HK HF HBX HOW
     generalize wc.drew=X6 at hHeld HKd HFd HBXd HOWd ⊢
     have HK:=hid HKd.out
     have HF:=hid HFd.out
     have HBX:=hid HBXd.out
     have HOW:=hid HOWd.out
     clear HKd HFd HBXd HOWd
     refine Tk.x 0 rfl ?_
     try simp only [Tk.put]
     refine Tk.t 1 (v:=.agg #[.int .i32 vQ,.int .i64 vQ,.int .i8 vQ]) rfl (yieldsIf_load_mid (by rfl) _ _ rfl bo 11 rfl [.int .i32 vQ,.int .i64 vQ,.int .i8 vQ] _ (fun wS hS=>range_sub hS 11 _ _ rfl) Tryz.underlying52 rfl (by kernel_rfl)) (by assumption) ?_
     try simp only [Tk.put]
     refine Tk.x 2 rfl ?_
     try simp only [Tk.put]
     refine Tk.x 3 rfl ?_
     try simp only [Tk.put]
     refine Tk.x 4 rfl ?_
     try simp only [Tk.put]
     refine Tk.x 5 rfl ?_
     try simp only [Tk.put]
     refine Tk.x 6 rfl ?_
     try simp only [Tk.put]
     refine Tk.t 7 (v:=.agg #[.int .i32 vB,.int .i64 vB,.int .i8 0]) rfl (yieldsIf_load_mid (by rfl) _ _ rfl bo 14 rfl [.int .i32 vB,.int .i64 vB,.int .i8 0] _ (fun wS hS=>range_sub hS 14 _ _ rfl) Tryz.underlying52 rfl (by kernel_rfl)) (by assumption) ?_
     try simp only [Tk.put]
     refine Tk.x 8 rfl ?_
     try simp only [Tk.put]
     refine Tk.x 9 rfl ?_
     try simp only [Tk.put]
     refine Tk.x 10 rfl ?_
     try simp only [Tk.put]
     refine Tk.x 11 rfl ?_
     try simp only [Tk.put]
     refine Tk.x 14 rfl ?_
     try simp only [Tk.put]
     refine Tk.s 12 rfl (fun Kq hK=>?_)
     go_simp
     have hal:Below X6.heap.size X6 (X6.alloc (.cells #[.int .i32 vQ,.int .i64 vQ,.int .i8 vQ,.pointer (some ⟨nb,o+11,none⟩),.int .i32 vB,.int .i64 vB,.int .i8 0,.pointer (some ⟨nb,o+14,none⟩)] 307)):=(Below.refl _ _).alloc (le_refl _) _
     have HSQ:Hid (Bxd (OW W) nb X6.heap.size [.int .i32 vQ,.int .i64 vQ,.int .i8 vQ,.pointer (some ⟨nb,o+11,none⟩),.int .i32 vB,.int .i64 vB,.int .i8 0,.pointer (some ⟨nb,o+14,none⟩)] (X6.alloc (.cells #[.int .i32 vQ,.int .i64 vQ,.int .i8 vQ,.pointer (some ⟨nb,o+11,none⟩),.int .i32 vB,.int .i64 vB,.int .i8 0,.pointer (some ⟨nb,o+14,none⟩)] 307))):=hid ⟨fun j v hj=>by rw [Nat.zero_add,Kit.zab];simpa using hj,by simp,(HK.out.new hal (le_refl _)).2,(HK.out.new hal (le_refl _)).1⟩
     replace HF:=hid (HF.out.trans (HK.out.fr hal))
     replace HBX:=hid (HBX.out.fr (HK.out.fr (J:=Jn o) hal))
     replace HOW:=hid (HOW.out.fr (HK.out.fr (J:=Jn o) hal))
     replace HK:=hid (HK.out.below hal)
     clear hal hHeld
     generalize X6.heap.size=bq at HSQ ⊢
     generalize X6.alloc (.cells #[.int .i32 vQ,.int .i64 vQ,.int .i8 vQ,.pointer (some ⟨nb,o+11,none⟩),.int .i32 vB,.int .i64 vB,.int .i8 0,.pointer (some ⟨nb,o+14,none⟩)] 307)=Z3 at HK HF HSQ HBX HOW ⊢
     refine hK.out _ _ HOW.out.cells (fun hHeld=>?_)
     clear hK Kq
     try simp only [Tk.put]
     refine Tk.x 13 rfl ?_
     try simp only [Tk.put]
     refine wpAnyH_done (by kernel_rfl) ?_ _
     clear hHeld
     go_wp2_with fail
     go_loopw [129] (fun i wr=>∃ t:Nat,t≤2∧i=.int .i64 t∧Hid (Hold N W nb o (L+400000+200000 * 5+200000+200000+200000+200000+600000 * t) (two k t p7) wr)∧Hid (Fr (OW W) N nb (Jn o) w wr)∧Hid (Bxd (OW W) nb bc [.iface 134 (.pointer (some ⟨W,0,none⟩))] wr)∧Hid (Bxd (OW W) nb bo [.int .i64 kd,.int .i64 na,.int .i64 vB,.int .i64 vW,.int .i64 vW,.int .i64 vP,.int .i64 vO,.int .i8 vZ,.int .i8 vB,.slice B1 nS c1,.slice B2 nS c2,.int .i32 vQ,.int .i64 vQ,.int .i8 vQ,.int .i32 vB,.int .i64 vB,.int .i8 0,.int .i8 vQ,.int .i8 vQ] wr)∧Hid (Bxd (OW W) nb bq [.int .i32 vQ,.int .i64 vQ,.int .i8 vQ,.pointer (some ⟨nb,o+11,none⟩),.int .i32 vB,.int .i64 vB,.int .i8 0,.pointer (some ⟨nb,o+14,none⟩)] wr)) (fun i _=>2 - (intOf i).toNat)
     case atStart=>exact⟨0,by omega,rfl,hid (HK.out.more (by omega)),HF,HBX,HOW,HSQ⟩
     case round =>
      clear HK HF HBX HOW HSQ
      obtain⟨t,ht,rfl,HK,HF,HBX,HOW,HSQ⟩:=hrel
      rcases (show t=0∨t=1∨t=2 by omega) with rfl | rfl | rfl
      ·skip
       obtain⟨q7,hq7⟩:∃ q7,two k 0 p7=q7:=⟨_,rfl⟩
       rw [hq7] at HK
       have HQ7:=hid hq7
       clear hq7
       have HRG:Hid (wr.rangeAt bq 0 [.int .i32 vQ,.int .i64 vQ,.int .i8 vQ,.pointer (some ⟨nb,o+11,none⟩)]):=hid (range_sub HSQ.out.cells 0 _ _ rfl)
       go_upto_region 20 with (refine wpList_load_mid rfl 307 (.tmp 131) rfl bq 0 rfl [.int .i32 vQ,.int .i64 vQ,.int .i8 vQ,.pointer (some ⟨nb,o+11,none⟩)] _ HRG.out Tryz.underlying307 rfl (by kernel_rfl) ?_)
       clear HRG
       have hal:Below wr.heap.size wr (wr.alloc (.cells #[.int .i32 vQ,.int .i64 vQ,.int .i8 vQ,.pointer (some ⟨nb,o+11,none⟩)] 307)):=(Below.refl _ _).alloc (le_refl _) _
       have HEL:Hid (Bxd (OW W) nb wr.heap.size [.int .i32 vQ,.int .i64 vQ,.int .i8 vQ,.pointer (some ⟨nb,o+11,none⟩)] (wr.alloc (.cells #[.int .i32 vQ,.int .i64 vQ,.int .i8 vQ,.pointer (some ⟨nb,o+11,none⟩)] 307))):=hid ⟨fun j v hj=>by rw [Nat.zero_add,Kit.zab];simpa using hj,by simp,(HK.out.new hal (le_refl _)).2,(HK.out.new hal (le_refl _)).1⟩
       replace HF:=hid (HF.out.trans (HK.out.fr hal))
       replace HBX:=hid (HBX.out.fr (HK.out.fr (J:=Jn o) hal))
       replace HOW:=hid (HOW.out.fr (HK.out.fr (J:=Jn o) hal))
       replace HSQ:=hid (HSQ.out.fr (HK.out.fr (J:=Jn o) hal))
       replace HK:=hid (HK.out.below hal)
       clear hal
       generalize wr.heap.size=be at HEL ⊢
       generalize wr.alloc (.cells #[.int .i32 vQ,.int .i64 vQ,.int .i8 vQ,.pointer (some ⟨nb,o+11,none⟩)] 307)=Z4 at HK HF HEL HBX HOW HSQ ⊢
       have e0:=HEL.out.at 0 _ rfl
       cases hfl:tQ k with
       | false =>
         have hV1:vQ=0:=by have q:=HV.out.2.2.2.2.2.1;rw [hfl] at q;exact q.symm
         clear e0
         have HEL2:Hid (Bxd (OW W) nb be [.int .i32 0,.int .i64 0,.int .i8 0,.pointer (some ⟨nb,o+11,none⟩)] Z4):=hid (by have q:=HEL.out;rw [hV1] at q;exact q)
         clear HEL
         have HEL:=hid HEL2.out
         clear HEL2
         have e0:=HEL.out.at 0 _ rfl
         clear hV1
         go_upto_region 23 with fail
         refine wp_region_held_drew (S:=fun wx=>wx.rangeAt be 0 [.int .i32 0,.int .i64 0,.int .i8 0,.pointer (some ⟨nb,o+11,none⟩)]) (by kernel_rfl) HEL.out.cells (fun hHeld=>?_)
         have HKd:=hid (HK.out.below ((Below.refl Z4.heap.size Z4).drew))
         have HFd:=hid (HF.out.trans (HK.out.fr ((Below.refl Z4.heap.size Z4).drew)))
         have HBXd:=hid (HBX.out.fr (HK.out.fr (J:=Jn o) ((Below.refl Z4.heap.size Z4).drew)))
         have HOWd:=hid (HOW.out.fr (HK.out.fr (J:=Jn o) ((Below.refl Z4.heap.size Z4).drew)))
         have HSQd:=hid (HSQ.out.fr (HK.out.fr (J:=Jn o) ((Below.refl Z4.heap.size Z4).drew)))
         have HELd:=hid (HEL.out.fr (HK.out.fr (J:=Jn o) ((Below.refl Z4.heap.size Z4).drew)))
         clear HK HF HBX HOW HSQ HEL
         generalize Z4.drew=X50 at hHeld HKd HFd HBXd HOWd HSQd HELd ⊢
         have HK:=hid HKd.out
         have HF:=hid HFd.out
         have HBX:=hid HBXd.out
         have HOW:=hid HOWd.out
         have HSQ:=hid HSQd.out
         have HEL:=hid HELd.out
         clear HKd HFd HBXd HOWd HSQd HELd
         refine Tk.x 0 rfl ?_
         try simp only [Tk.put]
         refine Tk.x 1 rfl ?_
         try simp only [Tk.put]
         refine Tk.x 2 rfl ?_
         try simp only [Tk.put]
         refine Tk.y 3 (v:=.int .i8 0) rfl ?_ ?_
         ·intro wS hSw
          have q:=zaf hSw 2 _ rfl
          first | (go_simp;done) | (go_simp;with_reducible rfl)
         try simp only [Tk.put]
         refine Tk.x 4 rfl ?_
         try simp only [Tk.put]
         refine Tk.y 5 (v:=.pointer (some ⟨nb,o+11,none⟩)) rfl ?_ ?_
         ·intro wS hSw
          have q:=zaf hSw 3 _ rfl
          first | (go_simp;done) | (go_simp;with_reducible rfl)
         try simp only [Tk.put]
         refine Tk.x 6 rfl ?_
         try simp only [Tk.put]
         refine Tk.x 7 rfl ?_
         try simp only [Tk.put]
         refine Tk.s 8 rfl (fun Kq hK=>?_)
         go_simp
         go_at_call 225
         refine (HCL.out 13 0 q7 _ _ (by unfold is8;omega) (by show b01 (tQ k)=0;rw [hfl];rfl) (by have:=HL.out;omega) (zaf HBX.out.cells 0 _ rfl) HK.out).mono ?_
         rintro e Y51 ⟨rfl,hk,hf⟩
         replace HF:=hid (HF.out.trans hf)
         replace HBX:=hid (HBX.out.fr hf)
         replace HOW:=hid (HOW.out.fr hf)
         replace HSQ:=hid (HSQ.out.fr hf)
         replace HEL:=hid (HEL.out.fr hf)
         replace HK:=hid hk
         clear hk hf hHeld
         refine hK.out _ _ HEL.out.cells (fun hHeld=>?_)
         clear hK Kq
         try simp only [Tk.put]
         refine wpAnyH_done (by kernel_rfl) ?_ _
         clear hHeld
         go_wp2_with fail
         go_roundw
         case rel=>exact⟨1,by omega,by go_num,hid (by show Hold N W nb o _ (zer k 0 (scl k 0 (two k 0 p7))) _;rw [HQ7.out,show scl k 0 q7=q7 from if_neg (by show ¬ tQ k=true;simp [hfl])];exact HK.out.more (by omega)),HF,HBX,HOW,HSQ⟩
         case measure=>simp [intOf]
       | true =>
         have hV1:vQ=1:=by have q:=HV.out.2.2.2.2.2.1;rw [hfl] at q;exact q.symm
         clear e0
         have HEL2:Hid (Bxd (OW W) nb be [.int .i32 1,.int .i64 1,.int .i8 1,.pointer (some ⟨nb,o+11,none⟩)] Z4):=hid (by have q:=HEL.out;rw [hV1] at q;exact q)
         clear HEL
         have HEL:=hid HEL2.out
         clear HEL2
         have e0:=HEL.out.at 0 _ rfl
         clear hV1
         go_upto_region 21 with fail
         clear e0
         refine wp_region_held_drew (S:=fun wx=>wx.rangeAt bc 0 [.iface 134 (.pointer (some ⟨W,0,none⟩))]∧wx.rangeAt be 0 [.int .i32 1,.int .i64 1,.int .i8 1,.pointer (some ⟨nb,o+11,none⟩)]) (by kernel_rfl) (⟨HBX.out.cells,HEL.out.cells⟩) (fun hHeld=>?_)
         have HKd:=hid (HK.out.below ((Below.refl Z4.heap.size Z4).drew))
         have HFd:=hid (HF.out.trans (HK.out.fr ((Below.refl Z4.heap.size Z4).drew)))
         have HBXd:=hid (HBX.out.fr (HK.out.fr (J:=Jn o) ((Below.refl Z4.heap.size Z4).drew)))
         have HOWd:=hid (HOW.out.fr (HK.out.fr (J:=Jn o) ((Below.refl Z4.heap.size Z4).drew)))
         have HSQd:=hid (HSQ.out.fr (HK.out.fr (J:=Jn o) ((Below.refl Z4.heap.size Z4).drew)))
         have HELd:=hid (HEL.out.fr (HK.out.fr (J:=Jn o) ((Below.refl Z4.heap.size Z4).drew)))
         clear HK HF HBX HOW HSQ HEL
         generalize Z4.drew=X58 at hHeld HKd HFd HBXd HOWd HSQd HELd ⊢
         have HK:=hid HKd.out
         have HF:=hid HFd.out
         have HBX:=hid HBXd.out
         have HOW:=hid HOWd.out
         have HSQ:=hid HSQd.out
         have HEL:=hid HELd.out
         clear HKd HFd HBXd HOWd HSQd HELd
         refine Tk.y 0 (v:=.iface 134 (.pointer (some ⟨W,0,none⟩))) rfl ?_ ?_
         ·intro wS hSw
          have q:=zaf hSw.1 0 _ rfl
          first | (go_simp;done) | (go_simp;with_reducible rfl)
         try simp only [Tk.put]
         refine Tk.x 2 rfl ?_
         try simp only [Tk.put]
         refine Tk.y 3 (v:=.pointer (some ⟨nb,o+11,none⟩)) rfl ?_ ?_
         ·intro wS hSw
          have q:=zaf hSw.2 3 _ rfl
          first | (go_simp;done) | (go_simp;with_reducible rfl)
         try simp only [Tk.put]
         refine Tk.x 4 rfl ?_
         try simp only [Tk.put]
         refine Tk.x 5 rfl ?_
         try simp only [Tk.put]
         refine Tk.s 1 rfl (fun Kq hK=>?_)
         go_simp
         go_at_call 102
         refine (wide_to (.iface 134 (.pointer (some ⟨W,0,none⟩))) X58 rfl).mono ?_
         rintro e wv ⟨rfl,hwv⟩
         have hal:Below X58.heap.size X58 wv:=by rw [hwv];exact (Below.refl _ _).alloc (le_refl _) _
         have HBV:Hid (wv.cell? ⟨X58.heap.size,0,none⟩=some (.iface 134 (.pointer (some ⟨W,0,none⟩)))):=hid (by rw [hwv];exact Kit.zab _ _ _ 0)
         replace HF:=hid (HF.out.trans (HK.out.fr hal))
         replace HBX:=hid (HBX.out.fr (HK.out.fr (J:=Jn o) hal))
         replace HOW:=hid (HOW.out.fr (HK.out.fr (J:=Jn o) hal))
         replace HSQ:=hid (HSQ.out.fr (HK.out.fr (J:=Jn o) hal))
         replace HEL:=hid (HEL.out.fr (HK.out.fr (J:=Jn o) hal))
         replace HK:=hid (HK.out.below hal)
         clear hal hwv hHeld
         generalize X58.heap.size=bv at HBV ⊢
         refine hK.out _ _ ⟨HBX.out.cells,HEL.out.cells⟩ (fun hHeld=>?_)
         clear hK Kq
         try simp only [Tk.put]
         refine Tk.s 6 rfl (fun Kq hK=>?_)
         go_simp
         go_at_call 135
         refine (vwid N W nb o _ 11 q7 _ bv (by unfold is32;omega) (by have:=HL.out;omega) HBV.out HK.out).mono ?_
         rintro e Y59 ⟨rfl,hk,hf⟩
         replace HF:=hid (HF.out.trans hf)
         replace HBX:=hid (HBX.out.fr hf)
         replace HOW:=hid (HOW.out.fr hf)
         replace HSQ:=hid (HSQ.out.fr hf)
         replace HEL:=hid (HEL.out.fr hf)
         replace HK:=hid hk
         clear hk hf hHeld
         refine hK.out _ _ (⟨HBX.out.cells,HEL.out.cells⟩) (fun hHeld=>?_)
         clear hK Kq
         try simp only [Tk.put]
         refine wpAnyH_done (by kernel_rfl) ?_ _
         clear hHeld
         clear HBV
         go_upto_region 22 with fail
         refine wp_region_held_drew (S:=fun wx=>wx.rangeAt bc 0 [.iface 134 (.pointer (some ⟨W,0,none⟩))]∧wx.rangeAt be 0 [.int .i32 1,.int .i64 1,.int .i8 1,.pointer (some ⟨nb,o+11,none⟩)]) (by kernel_rfl) (⟨HBX.out.cells,HEL.out.cells⟩) (fun hHeld=>?_)
         have HKd:=hid (HK.out.below ((Below.refl Y59.heap.size Y59).drew))
         have HFd:=hid (HF.out.trans (HK.out.fr ((Below.refl Y59.heap.size Y59).drew)))
         have HBXd:=hid (HBX.out.fr (HK.out.fr (J:=Jn o) ((Below.refl Y59.heap.size Y59).drew)))
         have HOWd:=hid (HOW.out.fr (HK.out.fr (J:=Jn o) ((Below.refl Y59.heap.size Y59).drew)))
         have HSQd:=hid (HSQ.out.fr (HK.out.fr (J:=Jn o) ((Below.refl Y59.heap.size Y59).drew)))
         have HELd:=hid (HEL.out.fr (HK.out.fr (J:=Jn o) ((Below.refl Y59.heap.size Y59).drew)))
         clear HK HF HBX HOW HSQ HEL
         generalize Y59.drew=X59 at hHeld HKd HFd HBXd HOWd HSQd HELd ⊢
         have HK:=hid HKd.out
         have HF:=hid HFd.out
         have HBX:=hid HBXd.out
         have HOW:=hid HOWd.out
         have HSQ:=hid HSQd.out
         have HEL:=hid HELd.out
         clear HKd HFd HBXd HOWd HSQd HELd
         refine Tk.y 0 (v:=.iface 134 (.pointer (some ⟨W,0,none⟩))) rfl ?_ ?_
         ·intro wS hSw
          have q:=zaf hSw.1 0 _ rfl
          first | (go_simp;done) | (go_simp;with_reducible rfl)
         try simp only [Tk.put]
         refine Tk.x 1 rfl ?_
         try simp only [Tk.put]
         refine Tk.y 2 (v:=.pointer (some ⟨nb,o+11,none⟩)) rfl ?_ ?_
         ·intro wS hSw
          have q:=zaf hSw.2 3 _ rfl
          first | (go_simp;done) | (go_simp;with_reducible rfl)
         try simp only [Tk.put]
         refine Tk.x 3 rfl ?_
         try simp only [Tk.put]
         refine Tk.x 4 rfl ?_
         try simp only [Tk.put]
         refine Tk.x 5 rfl ?_
         try simp only [Tk.put]
         refine Tk.y 6 (v := .func (.method "stepwell/pack.number") #[.iface 134 (.pointer (some ⟨W, 0, none⟩))] #[]) rfl ?_ ?_
         ·intro wS hSw
          first | (go_simp;done) | (go_simp;with_reducible rfl) | kernel_rfl
         try simp only [Tk.put]
         refine Tk.x 7 rfl ?_
         try simp only [Tk.put]
         refine Tk.s 8 rfl (fun Kq hK=>?_)
         go_simp
         rw [mth_number]
         go_simp
         go_at_call 211
         refine (vnum N W nb o _ 12 62 _ _ (by unfold is64;omega) (by decide) (by decide) (by have:=HL.out;omega) HK.out).mono ?_
         rintro e Y60 ⟨rfl,hk,hf⟩
         replace HF:=hid (HF.out.trans hf)
         replace HBX:=hid (HBX.out.fr hf)
         replace HOW:=hid (HOW.out.fr hf)
         replace HSQ:=hid (HSQ.out.fr hf)
         replace HEL:=hid (HEL.out.fr hf)
         replace HK:=hid hk
         clear hk hf hHeld
         refine hK.out _ _ (⟨HBX.out.cells,HEL.out.cells⟩) (fun hHeld=>?_)
         clear hK Kq
         try simp only [Tk.put]
         refine wpAnyH_done (by kernel_rfl) ?_ _
         clear hHeld
         go_upto_region 23 with fail
         refine wp_region_held_drew (S:=fun wx=>wx.rangeAt be 0 [.int .i32 1,.int .i64 1,.int .i8 1,.pointer (some ⟨nb,o+11,none⟩)]) (by kernel_rfl) HEL.out.cells (fun hHeld=>?_)
         have HKd:=hid (HK.out.below ((Below.refl Y60.heap.size Y60).drew))
         have HFd:=hid (HF.out.trans (HK.out.fr ((Below.refl Y60.heap.size Y60).drew)))
         have HBXd:=hid (HBX.out.fr (HK.out.fr (J:=Jn o) ((Below.refl Y60.heap.size Y60).drew)))
         have HOWd:=hid (HOW.out.fr (HK.out.fr (J:=Jn o) ((Below.refl Y60.heap.size Y60).drew)))
         have HSQd:=hid (HSQ.out.fr (HK.out.fr (J:=Jn o) ((Below.refl Y60.heap.size Y60).drew)))
         have HELd:=hid (HEL.out.fr (HK.out.fr (J:=Jn o) ((Below.refl Y60.heap.size Y60).drew)))
         clear HK HF HBX HOW HSQ HEL
         generalize Y60.drew=X60 at hHeld HKd HFd HBXd HOWd HSQd HELd ⊢
         have HK:=hid HKd.out
         have HF:=hid HFd.out
         have HBX:=hid HBXd.out
         have HOW:=hid HOWd.out
         have HSQ:=hid HSQd.out
         have HEL:=hid HELd.out
         clear HKd HFd HBXd HOWd HSQd HELd
         refine Tk.x 0 rfl ?_
         try simp only [Tk.put]
         refine Tk.x 1 rfl ?_
         try simp only [Tk.put]
         refine Tk.x 2 rfl ?_
         try simp only [Tk.put]
         refine Tk.y 3 (v:=.int .i8 1) rfl ?_ ?_
         ·intro wS hSw
          have q:=zaf hSw 2 _ rfl
          first | (go_simp;done) | (go_simp;with_reducible rfl)
         try simp only [Tk.put]
         refine Tk.x 4 rfl ?_
         try simp only [Tk.put]
         refine Tk.y 5 (v:=.pointer (some ⟨nb,o+11,none⟩)) rfl ?_ ?_
         ·intro wS hSw
          have q:=zaf hSw 3 _ rfl
          first | (go_simp;done) | (go_simp;with_reducible rfl)
         try simp only [Tk.put]
         refine Tk.x 6 rfl ?_
         try simp only [Tk.put]
         refine Tk.x 7 rfl ?_
         try simp only [Tk.put]
         refine Tk.s 8 rfl (fun Kq hK=>?_)
         go_simp
         go_at_call 225
         refine (HCL.out 13 1 _ _ _ (by unfold is8;omega) (by show b01 (tQ k)=1;rw [hfl];rfl) (by have:=HL.out;omega) (zaf HBX.out.cells 0 _ rfl) HK.out).mono ?_
         rintro e Y61 ⟨rfl,hk,hf⟩
         replace HF:=hid (HF.out.trans hf)
         replace HBX:=hid (HBX.out.fr hf)
         replace HOW:=hid (HOW.out.fr hf)
         replace HSQ:=hid (HSQ.out.fr hf)
         replace HEL:=hid (HEL.out.fr hf)
         replace HK:=hid hk
         clear hk hf hHeld
         refine hK.out _ _ HEL.out.cells (fun hHeld=>?_)
         clear hK Kq
         try simp only [Tk.put]
         refine wpAnyH_done (by kernel_rfl) ?_ _
         clear hHeld
         go_wp2_with fail
         go_roundw
         case rel=>exact⟨1,by omega,by go_num,hid (by show Hold N W nb o _ (zer k 0 (scl k 0 (two k 0 p7))) _;rw [HQ7.out,show scl k 0 q7=stN 12 62 (stN 11 2147483647 q7) from if_pos (by show tQ k=true;exact hfl)];exact HK.out.more (by omega)),HF,HBX,HOW,HSQ⟩
         case measure=>simp [intOf]
      ·skip
       obtain⟨q7,hq7⟩:∃ q7,two k 1 p7=q7:=⟨_,rfl⟩
       rw [hq7] at HK
       have HQ7:=hid hq7
       clear hq7
       have HRG:Hid (wr.rangeAt bq 4 [.int .i32 vB,.int .i64 vB,.int .i8 0,.pointer (some ⟨nb,o+14,none⟩)]):=hid (range_sub HSQ.out.cells 4 _ _ rfl)
       go_upto_region 20 with (refine wpList_load_mid rfl 307 (.tmp 131) rfl bq 4 rfl [.int .i32 vB,.int .i64 vB,.int .i8 0,.pointer (some ⟨nb,o+14,none⟩)] _ HRG.out Tryz.underlying307 rfl (by kernel_rfl) ?_)
       clear HRG
       have hal:Below wr.heap.size wr (wr.alloc (.cells #[.int .i32 vB,.int .i64 vB,.int .i8 0,.pointer (some ⟨nb,o+14,none⟩)] 307)):=(Below.refl _ _).alloc (le_refl _) _
       have HEL:Hid (Bxd (OW W) nb wr.heap.size [.int .i32 vB,.int .i64 vB,.int .i8 0,.pointer (some ⟨nb,o+14,none⟩)] (wr.alloc (.cells #[.int .i32 vB,.int .i64 vB,.int .i8 0,.pointer (some ⟨nb,o+14,none⟩)] 307))):=hid ⟨fun j v hj=>by rw [Nat.zero_add,Kit.zab];simpa using hj,by simp,(HK.out.new hal (le_refl _)).2,(HK.out.new hal (le_refl _)).1⟩
       replace HF:=hid (HF.out.trans (HK.out.fr hal))
       replace HBX:=hid (HBX.out.fr (HK.out.fr (J:=Jn o) hal))
       replace HOW:=hid (HOW.out.fr (HK.out.fr (J:=Jn o) hal))
       replace HSQ:=hid (HSQ.out.fr (HK.out.fr (J:=Jn o) hal))
       replace HK:=hid (HK.out.below hal)
       clear hal
       generalize wr.heap.size=be at HEL ⊢
       generalize wr.alloc (.cells #[.int .i32 vB,.int .i64 vB,.int .i8 0,.pointer (some ⟨nb,o+14,none⟩)] 307)=Z4 at HK HF HEL HBX HOW HSQ ⊢
       have e0:=HEL.out.at 0 _ rfl
       cases hfl:tB k with
       | false =>
         have hV1:vB=0:=by have q:=HV.out.1;rw [hfl] at q;exact q.symm
         clear e0
         have HEL2:Hid (Bxd (OW W) nb be [.int .i32 0,.int .i64 0,.int .i8 0,.pointer (some ⟨nb,o+14,none⟩)] Z4):=hid (by have q:=HEL.out;rw [hV1] at q;exact q)
         clear HEL
         have HEL:=hid HEL2.out
         clear HEL2
         have e0:=HEL.out.at 0 _ rfl
         clear hV1
         go_upto_region 23 with fail
         refine wp_region_held_drew (S:=fun wx=>wx.rangeAt be 0 [.int .i32 0,.int .i64 0,.int .i8 0,.pointer (some ⟨nb,o+14,none⟩)]) (by kernel_rfl) HEL.out.cells (fun hHeld=>?_)
         have HKd:=hid (HK.out.below ((Below.refl Z4.heap.size Z4).drew))
         have HFd:=hid (HF.out.trans (HK.out.fr ((Below.refl Z4.heap.size Z4).drew)))
         have HBXd:=hid (HBX.out.fr (HK.out.fr (J:=Jn o) ((Below.refl Z4.heap.size Z4).drew)))
         have HOWd:=hid (HOW.out.fr (HK.out.fr (J:=Jn o) ((Below.refl Z4.heap.size Z4).drew)))
         have HSQd:=hid (HSQ.out.fr (HK.out.fr (J:=Jn o) ((Below.refl Z4.heap.size Z4).drew)))
         have HELd:=hid (HEL.out.fr (HK.out.fr (J:=Jn o) ((Below.refl Z4.heap.size Z4).drew)))
         clear HK HF HBX HOW HSQ HEL
         generalize Z4.drew=X70 at hHeld HKd HFd HBXd HOWd HSQd HELd ⊢
         have HK:=hid HKd.out
         have HF:=hid HFd.out
         have HBX:=hid HBXd.out
         have HOW:=hid HOWd.out
         have HSQ:=hid HSQd.out
         have HEL:=hid HELd.out
         clear HKd HFd HBXd HOWd HSQd HELd
         refine Tk.x 0 rfl ?_
         try simp only [Tk.put]
         refine Tk.x 1 rfl ?_
         try simp only [Tk.put]
         refine Tk.x 2 rfl ?_
         try simp only [Tk.put]
         refine Tk.y 3 (v:=.int .i8 0) rfl ?_ ?_
         ·intro wS hSw
          have q:=zaf hSw 2 _ rfl
          first | (go_simp;done) | (go_simp;with_reducible rfl)
         try simp only [Tk.put]
         refine Tk.x 4 rfl ?_
         try simp only [Tk.put]
         refine Tk.y 5 (v:=.pointer (some ⟨nb,o+14,none⟩)) rfl ?_ ?_
         ·intro wS hSw
          have q:=zaf hSw 3 _ rfl
          first | (go_simp;done) | (go_simp;with_reducible rfl)
         try simp only [Tk.put]
         refine Tk.x 6 rfl ?_
         try simp only [Tk.put]
         refine Tk.x 7 rfl ?_
         try simp only [Tk.put]
         refine Tk.s 8 rfl (fun Kq hK=>?_)
         go_simp
         go_at_call 225
         refine (HCL.out 16 0 q7 _ _ (by unfold is8;omega) (by show b01 (false)=0;rfl) (by have:=HL.out;omega) (zaf HBX.out.cells 0 _ rfl) HK.out).mono ?_
         rintro e Y71 ⟨rfl,hk,hf⟩
         replace HF:=hid (HF.out.trans hf)
         replace HBX:=hid (HBX.out.fr hf)
         replace HOW:=hid (HOW.out.fr hf)
         replace HSQ:=hid (HSQ.out.fr hf)
         replace HEL:=hid (HEL.out.fr hf)
         replace HK:=hid hk
         clear hk hf hHeld
         refine hK.out _ _ HEL.out.cells (fun hHeld=>?_)
         clear hK Kq
         try simp only [Tk.put]
         refine wpAnyH_done (by kernel_rfl) ?_ _
         clear hHeld
         go_wp2_with fail
         go_roundw
         case rel=>exact⟨2,by omega,by go_num,hid (by show Hold N W nb o _ (zer k 1 (scl k 1 (two k 1 p7))) _;rw [HQ7.out,show scl k 1 q7=q7 from if_neg (by show ¬ tB k=true;simp [hfl])];exact HK.out.more (by omega)),HF,HBX,HOW,HSQ⟩
         case measure=>simp [intOf]
       | true =>
         have hV1:vB=1:=by have q:=HV.out.1;rw [hfl] at q;exact q.symm
         clear e0
         have HEL2:Hid (Bxd (OW W) nb be [.int .i32 1,.int .i64 1,.int .i8 0,.pointer (some ⟨nb,o+14,none⟩)] Z4):=hid (by have q:=HEL.out;rw [hV1] at q;exact q)
         clear HEL
         have HEL:=hid HEL2.out
         clear HEL2
         have e0:=HEL.out.at 0 _ rfl
         clear hV1
         go_upto_region 21 with fail
         clear e0
         refine wp_region_held_drew (S:=fun wx=>wx.rangeAt bc 0 [.iface 134 (.pointer (some ⟨W,0,none⟩))]∧wx.rangeAt be 0 [.int .i32 1,.int .i64 1,.int .i8 0,.pointer (some ⟨nb,o+14,none⟩)]) (by kernel_rfl) (⟨HBX.out.cells,HEL.out.cells⟩) (fun hHeld=>?_)
         have HKd:=hid (HK.out.below ((Below.refl Z4.heap.size Z4).drew))
         have HFd:=hid (HF.out.trans (HK.out.fr ((Below.refl Z4.heap.size Z4).drew)))
         have HBXd:=hid (HBX.out.fr (HK.out.fr (J:=Jn o) ((Below.refl Z4.heap.size Z4).drew)))
         have HOWd:=hid (HOW.out.fr (HK.out.fr (J:=Jn o) ((Below.refl Z4.heap.size Z4).drew)))
         have HSQd:=hid (HSQ.out.fr (HK.out.fr (J:=Jn o) ((Below.refl Z4.heap.size Z4).drew)))
         have HELd:=hid (HEL.out.fr (HK.out.fr (J:=Jn o) ((Below.refl Z4.heap.size Z4).drew)))
         clear HK HF HBX HOW HSQ HEL
         generalize Z4.drew=X78 at hHeld HKd HFd HBXd HOWd HSQd HELd ⊢
         have HK:=hid HKd.out
         have HF:=hid HFd.out
         have HBX:=hid HBXd.out
         have HOW:=hid HOWd.out
         have HSQ:=hid HSQd.out
         have HEL:=hid HELd.out
         clear HKd HFd HBXd HOWd HSQd HELd
         refine Tk.y 0 (v:=.iface 134 (.pointer (some ⟨W,0,none⟩))) rfl ?_ ?_
         ·intro wS hSw
          have q:=zaf hSw.1 0 _ rfl
          first | (go_simp;done) | (go_simp;with_reducible rfl)
         try simp only [Tk.put]
         refine Tk.x 2 rfl ?_
         try simp only [Tk.put]
         refine Tk.y 3 (v:=.pointer (some ⟨nb,o+14,none⟩)) rfl ?_ ?_
         ·intro wS hSw
          have q:=zaf hSw.2 3 _ rfl
          first | (go_simp;done) | (go_simp;with_reducible rfl)
         try simp only [Tk.put]
         refine Tk.x 4 rfl ?_
         try simp only [Tk.put]
         refine Tk.x 5 rfl ?_
         try simp only [Tk.put]
         refine Tk.s 1 rfl (fun Kq hK=>?_)
         go_simp
         go_at_call 102
         refine (wide_to (.iface 134 (.pointer (some ⟨W,0,none⟩))) X78 rfl).mono ?_
         rintro e wv ⟨rfl,hwv⟩
         have hal:Below X78.heap.size X78 wv:=by rw [hwv];exact (Below.refl _ _).alloc (le_refl _) _
         have HBV:Hid (wv.cell? ⟨X78.heap.size,0,none⟩=some (.iface 134 (.pointer (some ⟨W,0,none⟩)))):=hid (by rw [hwv];exact Kit.zab _ _ _ 0)
         replace HF:=hid (HF.out.trans (HK.out.fr hal))
         replace HBX:=hid (HBX.out.fr (HK.out.fr (J:=Jn o) hal))
         replace HOW:=hid (HOW.out.fr (HK.out.fr (J:=Jn o) hal))
         replace HSQ:=hid (HSQ.out.fr (HK.out.fr (J:=Jn o) hal))
         replace HEL:=hid (HEL.out.fr (HK.out.fr (J:=Jn o) hal))
         replace HK:=hid (HK.out.below hal)
         clear hal hwv hHeld
         generalize X78.heap.size=bv at HBV ⊢
         refine hK.out _ _ ⟨HBX.out.cells,HEL.out.cells⟩ (fun hHeld=>?_)
         clear hK Kq
         try simp only [Tk.put]
         refine Tk.s 6 rfl (fun Kq hK=>?_)
         go_simp
         go_at_call 135
         refine (vwid N W nb o _ 14 q7 _ bv (by unfold is32;omega) (by have:=HL.out;omega) HBV.out HK.out).mono ?_
         rintro e Y79 ⟨rfl,hk,hf⟩
         replace HF:=hid (HF.out.trans hf)
         replace HBX:=hid (HBX.out.fr hf)
         replace HOW:=hid (HOW.out.fr hf)
         replace HSQ:=hid (HSQ.out.fr hf)
         replace HEL:=hid (HEL.out.fr hf)
         replace HK:=hid hk
         clear hk hf hHeld
         refine hK.out _ _ (⟨HBX.out.cells,HEL.out.cells⟩) (fun hHeld=>?_)
         clear hK Kq
         try simp only [Tk.put]
         refine wpAnyH_done (by kernel_rfl) ?_ _
         clear hHeld
         clear HBV
         go_upto_region 22 with fail
         refine wp_region_held_drew (S:=fun wx=>wx.rangeAt bc 0 [.iface 134 (.pointer (some ⟨W,0,none⟩))]∧wx.rangeAt be 0 [.int .i32 1,.int .i64 1,.int .i8 0,.pointer (some ⟨nb,o+14,none⟩)]) (by kernel_rfl) (⟨HBX.out.cells,HEL.out.cells⟩) (fun hHeld=>?_)
         have HKd:=hid (HK.out.below ((Below.refl Y79.heap.size Y79).drew))
         have HFd:=hid (HF.out.trans (HK.out.fr ((Below.refl Y79.heap.size Y79).drew)))
         have HBXd:=hid (HBX.out.fr (HK.out.fr (J:=Jn o) ((Below.refl Y79.heap.size Y79).drew)))
         have HOWd:=hid (HOW.out.fr (HK.out.fr (J:=Jn o) ((Below.refl Y79.heap.size Y79).drew)))
         have HSQd:=hid (HSQ.out.fr (HK.out.fr (J:=Jn o) ((Below.refl Y79.heap.size Y79).drew)))
         have HELd:=hid (HEL.out.fr (HK.out.fr (J:=Jn o) ((Below.refl Y79.heap.size Y79).drew)))
         clear HK HF HBX HOW HSQ HEL
         generalize Y79.drew=X79 at hHeld HKd HFd HBXd HOWd HSQd HELd ⊢
         have HK:=hid HKd.out
         have HF:=hid HFd.out
         have HBX:=hid HBXd.out
         have HOW:=hid HOWd.out
         have HSQ:=hid HSQd.out
         have HEL:=hid HELd.out
         clear HKd HFd HBXd HOWd HSQd HELd
         refine Tk.y 0 (v:=.iface 134 (.pointer (some ⟨W,0,none⟩))) rfl ?_ ?_
         ·intro wS hSw
          have q:=zaf hSw.1 0 _ rfl
          first | (go_simp;done) | (go_simp;with_reducible rfl)
         try simp only [Tk.put]
         refine Tk.x 1 rfl ?_
         try simp only [Tk.put]
         refine Tk.y 2 (v:=.pointer (some ⟨nb,o+14,none⟩)) rfl ?_ ?_
         ·intro wS hSw
          have q:=zaf hSw.2 3 _ rfl
          first | (go_simp;done) | (go_simp;with_reducible rfl)
         try simp only [Tk.put]
         refine Tk.x 3 rfl ?_
         try simp only [Tk.put]
         refine Tk.x 4 rfl ?_
         try simp only [Tk.put]
         refine Tk.x 5 rfl ?_
         try simp only [Tk.put]
         refine Tk.y 6 (v := .func (.method "stepwell/pack.number") #[.iface 134 (.pointer (some ⟨W, 0, none⟩))] #[]) rfl ?_ ?_
         ·intro wS hSw
          first | (go_simp;done) | (go_simp;with_reducible rfl) | kernel_rfl
         try simp only [Tk.put]
         refine Tk.x 7 rfl ?_
         try simp only [Tk.put]
         refine Tk.s 8 rfl (fun Kq hK=>?_)
         go_simp
         rw [mth_number]
         go_simp
         go_at_call 211
         refine (vnum N W nb o _ 15 62 _ _ (by unfold is64;omega) (by decide) (by decide) (by have:=HL.out;omega) HK.out).mono ?_
         rintro e Y80 ⟨rfl,hk,hf⟩
         replace HF:=hid (HF.out.trans hf)
         replace HBX:=hid (HBX.out.fr hf)
         replace HOW:=hid (HOW.out.fr hf)
         replace HSQ:=hid (HSQ.out.fr hf)
         replace HEL:=hid (HEL.out.fr hf)
         replace HK:=hid hk
         clear hk hf hHeld
         refine hK.out _ _ (⟨HBX.out.cells,HEL.out.cells⟩) (fun hHeld=>?_)
         clear hK Kq
         try simp only [Tk.put]
         refine wpAnyH_done (by kernel_rfl) ?_ _
         clear hHeld
         go_upto_region 23 with fail
         refine wp_region_held_drew (S:=fun wx=>wx.rangeAt be 0 [.int .i32 1,.int .i64 1,.int .i8 0,.pointer (some ⟨nb,o+14,none⟩)]) (by kernel_rfl) HEL.out.cells (fun hHeld=>?_)
         have HKd:=hid (HK.out.below ((Below.refl Y80.heap.size Y80).drew))
         have HFd:=hid (HF.out.trans (HK.out.fr ((Below.refl Y80.heap.size Y80).drew)))
         have HBXd:=hid (HBX.out.fr (HK.out.fr (J:=Jn o) ((Below.refl Y80.heap.size Y80).drew)))
         have HOWd:=hid (HOW.out.fr (HK.out.fr (J:=Jn o) ((Below.refl Y80.heap.size Y80).drew)))
         have HSQd:=hid (HSQ.out.fr (HK.out.fr (J:=Jn o) ((Below.refl Y80.heap.size Y80).drew)))
         have HELd:=hid (HEL.out.fr (HK.out.fr (J:=Jn o) ((Below.refl Y80.heap.size Y80).drew)))
         clear HK HF HBX HOW HSQ HEL
         generalize Y80.drew=X80 at hHeld HKd HFd HBXd HOWd HSQd HELd ⊢
         have HK:=hid HKd.out
         have HF:=hid HFd.out
         have HBX:=hid HBXd.out
         have HOW:=hid HOWd.out
         have HSQ:=hid HSQd.out
         have HEL:=hid HELd.out
         clear HKd HFd HBXd HOWd HSQd HELd
         refine Tk.x 0 rfl ?_
         try simp only [Tk.put]
         refine Tk.x 1 rfl ?_
         try simp only [Tk.put]
         refine Tk.x 2 rfl ?_
         try simp only [Tk.put]
         refine Tk.y 3 (v:=.int .i8 0) rfl ?_ ?_
         ·intro wS hSw
          have q:=zaf hSw 2 _ rfl
          first | (go_simp;done) | (go_simp;with_reducible rfl)
         try simp only [Tk.put]
         refine Tk.x 4 rfl ?_
         try simp only [Tk.put]
         refine Tk.y 5 (v:=.pointer (some ⟨nb,o+14,none⟩)) rfl ?_ ?_
         ·intro wS hSw
          have q:=zaf hSw 3 _ rfl
          first | (go_simp;done) | (go_simp;with_reducible rfl)
         try simp only [Tk.put]
         refine Tk.x 6 rfl ?_
         try simp only [Tk.put]
         refine Tk.x 7 rfl ?_
         try simp only [Tk.put]
         refine Tk.s 8 rfl (fun Kq hK=>?_)
         go_simp
         go_at_call 225
         refine (HCL.out 16 0 _ _ _ (by unfold is8;omega) (by show b01 (false)=0;rfl) (by have:=HL.out;omega) (zaf HBX.out.cells 0 _ rfl) HK.out).mono ?_
         rintro e Y81 ⟨rfl,hk,hf⟩
         replace HF:=hid (HF.out.trans hf)
         replace HBX:=hid (HBX.out.fr hf)
         replace HOW:=hid (HOW.out.fr hf)
         replace HSQ:=hid (HSQ.out.fr hf)
         replace HEL:=hid (HEL.out.fr hf)
         replace HK:=hid hk
         clear hk hf hHeld
         refine hK.out _ _ HEL.out.cells (fun hHeld=>?_)
         clear hK Kq
         try simp only [Tk.put]
         refine wpAnyH_done (by kernel_rfl) ?_ _
         clear hHeld
         go_wp2_with fail
         go_roundw
         case rel=>exact⟨2,by omega,by go_num,hid (by show Hold N W nb o _ (zer k 1 (scl k 1 (two k 1 p7))) _;rw [HQ7.out,show scl k 1 q7=stN 15 62 (stN 14 2147483647 q7) from if_pos (by show tB k=true;exact hfl)];exact HK.out.more (by omega)),HF,HBX,HOW,HSQ⟩
         case measure=>simp [intOf]
      ·obtain⟨p8,hp8⟩:∃ p8,two k 2 p7=p8:=⟨_,rfl⟩
       rw [hp8] at HK
       have HP8:=hid hp8
       clear hp8 HSQ
       go_upto_region 25 with fail
       refine wp_region_held_drew (S:=fun wx=>wx.rangeAt bo 0 [.int .i64 kd,.int .i64 na,.int .i64 vB,.int .i64 vW,.int .i64 vW,.int .i64 vP,.int .i64 vO,.int .i8 vZ,.int .i8 vB,.slice B1 nS c1,.slice B2 nS c2,.int .i32 vQ,.int .i64 vQ,.int .i8 vQ,.int .i32 vB,.int .i64 vB,.int .i8 0,.int .i8 vQ,.int .i8 vQ]) (by kernel_rfl) HOW.out.cells (fun hHeld=>?_)
       have HKd:=hid (HK.out.below ((Below.refl wr.heap.size wr).drew))
       have HFd:=hid (HF.out.trans (HK.out.fr ((Below.refl wr.heap.size wr).drew)))
       have HBXd:=hid (HBX.out.fr (HK.out.fr (J:=Jn o) ((Below.refl wr.heap.size wr).drew)))
       have HOWd:=hid (HOW.out.fr (HK.out.fr (J:=Jn o) ((Below.refl wr.heap.size wr).drew)))
       clear HK HF HBX HOW
       generalize wr.drew=X100 at hHeld HKd HFd HBXd HOWd ⊢
       have HK:=hid HKd.out
       have HF:=hid HFd.out
       have HBX:=hid HBXd.out
       have HOW:=hid HOWd.out
       clear HKd HFd HBXd HOWd
       refine Tk.x 0 rfl ?_
       try simp only [Tk.put]
       refine Tk.x 1 rfl ?_
       try simp only [Tk.put]
       refine Tk.y 2 (v:=.int .i8 vQ) rfl ?_ ?_
       ·intro wS hSw
        have q:=zaf hSw 17 _ rfl
        first | (go_simp;done) | (go_simp;with_reducible rfl)
       try simp only [Tk.put]
       refine Tk.x 3 rfl ?_
       try simp only [Tk.put]
       refine Tk.x 4 rfl ?_
       try simp only [Tk.put]
       refine Tk.x 5 rfl ?_
       try simp only [Tk.put]
       refine Tk.s 6 rfl (fun Kq hK=>?_)
       go_simp
       go_at_call 225
       refine (HCL.out 17 vQ p8 _ _ (by unfold is8;omega) HV.out.2.2.2.2.2.1 (by have:=HL.out;omega) (zaf HBX.out.cells 0 _ rfl) HK.out).mono ?_
       rintro e Y101 ⟨rfl,hk,hf⟩
       replace HF:=hid (HF.out.trans hf)
       replace HBX:=hid (HBX.out.fr hf)
       replace HOW:=hid (HOW.out.fr hf)
       replace HK:=hid hk
       clear hk hf hHeld
       refine hK.out _ _ HOW.out.cells (fun hHeld=>?_)
       clear hK Kq
       try simp only [Tk.put]
       refine wpAnyH_done (by kernel_rfl) ?_ _
       clear hHeld
       go_upto_region 26 with fail
       obtain⟨p9,hp9⟩:∃ p9,sml k 17 p8=p9:=⟨_,rfl⟩
       rw [hp9] at HK
       have HP9:=hid hp9
       clear hp9
       refine wp_region_held_drew (S:=fun wx=>wx.rangeAt bo 0 [.int .i64 kd,.int .i64 na,.int .i64 vB,.int .i64 vW,.int .i64 vW,.int .i64 vP,.int .i64 vO,.int .i8 vZ,.int .i8 vB,.slice B1 nS c1,.slice B2 nS c2,.int .i32 vQ,.int .i64 vQ,.int .i8 vQ,.int .i32 vB,.int .i64 vB,.int .i8 0,.int .i8 vQ,.int .i8 vQ]) (by kernel_rfl) HOW.out.cells (fun hHeld=>?_)
       have HKd:=hid (HK.out.below ((Below.refl Y101.heap.size Y101).drew))
       have HFd:=hid (HF.out.trans (HK.out.fr ((Below.refl Y101.heap.size Y101).drew)))
       have HBXd:=hid (HBX.out.fr (HK.out.fr (J:=Jn o) ((Below.refl Y101.heap.size Y101).drew)))
       have HOWd:=hid (HOW.out.fr (HK.out.fr (J:=Jn o) ((Below.refl Y101.heap.size Y101).drew)))
       clear HK HF HBX HOW
       generalize Y101.drew=X101 at hHeld HKd HFd HBXd HOWd ⊢
       have HK:=hid HKd.out
       have HF:=hid HFd.out
       have HBX:=hid HBXd.out
       have HOW:=hid HOWd.out
       clear HKd HFd HBXd HOWd
       refine Tk.x 0 rfl ?_
       try simp only [Tk.put]
       refine Tk.x 1 rfl ?_
       try simp only [Tk.put]
       refine Tk.y 2 (v:=.int .i8 vQ) rfl ?_ ?_
       ·intro wS hSw
        have q:=zaf hSw 18 _ rfl
        first | (go_simp;done) | (go_simp;with_reducible rfl)
       try simp only [Tk.put]
       refine Tk.x 3 rfl ?_
       try simp only [Tk.put]
       refine Tk.x 4 rfl ?_
       try simp only [Tk.put]
       refine Tk.x 5 rfl ?_
       try simp only [Tk.put]
       refine Tk.s 6 rfl (fun Kq hK=>?_)
       go_simp
       go_at_call 225
       refine (HCL.out 18 vQ p9 _ _ (by unfold is8;omega) HV.out.2.2.2.2.2.1 (by have:=HL.out;omega) (zaf HBX.out.cells 0 _ rfl) HK.out).mono ?_
       rintro e Y102 ⟨rfl,hk,hf⟩
       replace HF:=hid (HF.out.trans hf)
       replace HBX:=hid (HBX.out.fr hf)
       replace HOW:=hid (HOW.out.fr hf)
       replace HK:=hid hk
       clear hk hf hHeld
       refine hK.out _ _ HOW.out.cells (fun hHeld=>?_)
       clear hK Kq
       try simp only [Tk.put]
       refine wpAnyH_done (by kernel_rfl) ?_ _
       clear hHeld
       go_wp2_with fail
       go_end0
       rw [HP3.out,HP4.out,HP5.out,Hp6.out,Hp7.out,HP8.out,HP9.out]
       exact⟨rfl,HK.out.more (by omega),HF.out⟩
end CPkW
end
end Go.Proofs.YtfgdfignoakkaaaGreatDoor
