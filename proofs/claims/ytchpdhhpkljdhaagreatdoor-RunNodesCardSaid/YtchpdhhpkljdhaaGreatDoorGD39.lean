/- -/
import Derived.Test.YtchpdhhpkljdhaaGreatDoorGD33
open Go.Value renaming int→Jj
open Go.IntKind renaming i64→Jq
open Go.Lib (hid)
open Nat (le_refl lt_of_succ_lt lt_succ_self)
set_option linter.unusedVariables false
set_option linter.unusedSimpArgs false
set_option maxRecDepth 100000
set_option maxHeartbeats 16000000
namespace Go.Proofs.YtchpdhhpkljdhaaGreatDoor
namespace CConv
end CConv
namespace CSat
end CSat
open Go Go.ChangeShapes Go.WideShapes Go.ChangeAt Go.RowKit
section
namespace CPool
open Plain CSat CShape CTensor CConv
def reachK (zs:List Int):Nat→Int × Int
 | 0=>(zs.getD 0 0,zs.getD 0 0)
 | k+1=>(min (reachK zs k).1 (zs.getD k 0),max (reachK zs k).2 (zs.getD k 0))
def topZ (zs:List Int):Int:=(reachK zs zs.length).2
theorem refReach_top (A:Option Addr) (zs:List Int) (n c:Nat) (hn:zs.length=n) (hl:n≤1000000) (x:Int) (hx:topZ zs=x) (w:World) {B:Nat} (hr:Kit.Rd w B A (I8s zs)) :
  Calls Tryz.prog 68 #[.slice A n c] w fun e w'=>(∃ lo,e=.returned (.tuple #[.int .i8 lo,.int .i8 x]))∧∃ m,w'=w.drewN m:=by
 rcases Nat.eq_zero_or_pos n with h0 | h0
 ·subst h0
  obtain rfl:=List.eq_nil_of_length_eq_zero hn
  have hx0:x=0:=hx.symm
  subst hx0
  clear hr hx hn
  go_enter Tryz.func68,Tryz.ntmps68
  go_wp2_with fail
  go_ret2
  exact⟨⟨_,rfl⟩,0,rfl⟩
 ·obtain⟨b0,off0,rfl,_,hc0⟩:=zax hr (j:=0) Zb3
  have hc1:w.cell? ⟨b0,off0,none⟩=some (.int .i8 (zs.getD 0 0)):=by simpa using hc0 0 Zb3
  have HC:=hid hc0
  have HN:=hid hn
  have HXX:=hid hx
  have hNI:(1:Int)≤(n:Int):=by omega
  have hN0:((n:Int) == 0)=false:=by simp;omega
  obtain⟨z,hz⟩:∃ z,zs.getD 0 0=z:=⟨_,rfl⟩
  rw [hz] at hc1
  have HZ0:=hid hz
  clear hc0 hn hx hz hr
  go_enter Tryz.func68,Tryz.ntmps68
  go_wp2_with fail
  go_quiet (fail)
  go_wp2_with fail
  go_loopw [4,5,6] (fun a b i wr=>∃ (k m:Nat) (l h:Int),k≤n∧i=Jj Jq k∧a=.int .i8 l∧b=.int .i8 h∧Hid (reachK zs k=(l,h))∧Hid (wr=w.drewN m)) (fun _ _ i _=>n - (intOf i).toNat)
  case atStart=>exact⟨0,_,z,z,Nat.zero_le _,rfl,rfl,rfl,hid (by show (zs.getD 0 0,zs.getD 0 0)=_;rw [HZ0.out]),hid rfl⟩
  case round =>
   obtain⟨k,m,l,h,hk,rfl,rfl,rfl,hst,hw⟩:=hrel
   obtain rfl:=hw.out
   clear hw hc1
   by_cases hlt:k < n
   ·have hcx:=HC.out k Zbe
    have hnx:reachK zs (k+1)=(min l (zs.getD k 0),max h (zs.getD k 0)):=by
     show (min (reachK zs k).1 _,max (reachK zs k).2 _)=_
     rw [hst.out]
    generalize zs.getD k 0=x1 at hcx hnx
    have hmn:∃ m,min l x1=m∧((l≤x1∧¬ x1 < l∧m=l)∨(x1 < l∧¬ l≤x1∧m=x1)):=⟨_,rfl,by omega⟩
    have hmx:∃ m,max h x1=m∧((h < x1∧¬ x1≤h∧m=x1)∨(x1≤h∧¬ h < x1∧m=h)):=⟨_,rfl,by omega⟩
    obtain⟨m1,hm1,hmn⟩:=hmn
    obtain⟨m2,hm2,hmx⟩:=hmx
    rw [hm1,hm2] at hnx
    have HNX:=hid hnx
    have hkI:(k:Int) < (n:Int):=by omega
    have hkJ:(0:Int)≤(k:Int):=by omega
    clear hnx hst
    rcases hmn with ⟨q1,q2,rfl⟩ | ⟨q1,q2,rfl⟩ <;> rcases hmx with ⟨q3,q4,rfl⟩ | ⟨q3,q4,rfl⟩
    all_goals
     go_wp2_with fail
     go_roundw
     case rel=>exact⟨k+1,m,_,_,by omega,by go_num,rfl,rfl,HNX,hid rfl⟩
     case measure=>simp [intOf];omega
   ·obtain rfl:k=n:=by omega
    have he:h=x:=by
     rw [← HXX.out]
     unfold topZ
     rw [HN.out,hst.out]
    subst he
    go_wp2_with fail
    go_ret2
    exact⟨⟨_,rfl⟩,m,rfl⟩
def mostF (zs:List Int) (H W C S P:Int) (kk:Nat) (h v o:Nat):Int:=topZ (zcg zs H W C ((h:Int) * S - P) ((v:Int) * S - P) kk o)
theorem refPool_most (H W C:Int) (A:Option Addr) (zs:List Int) (n c:Nat) (hn:zs.length=n) (ht:tensB H W C n=true) (hz:I8b zs) (x0 x1 x2 x8 x11 x12 x13 x14 x15 x16 x17 x18:Value) (K S P O Z:Int) (WA BA:Option Addr) (nW cW nB cB:Nat) (a b d kk:Nat) (he:za7 H W C K S P C=0) (ha:zad H K S P=(a:Int)) (hb:zad W K S P=(b:Int)) (hd:C=(d:Int)) (hk:K=(kk:Int)) (N:Nat) (hN:a * b * d=N)
  (w:World) (hr:Kit.Rd w w.heap.size A (I8s zs)) :
  Calls Tryz.prog 23 #[.agg #[Jj Jq H,Jj Jq W,Jj Jq C,.slice A n c],.agg #[x0,x1,x2,Jj Jq K,Jj Jq S,Jj Jq P,Jj Jq O,.int .i8 Z,x8,.slice WA nW cW,.slice BA nB cB,x11,x12,x13,x14,x15,x16,x17,x18],.bool true] w (MadeP w (a:Int) (b:Int) C N (rowL (gridF b d (mostF zs H W C S P kk)) N) (Jj Jq 0)):=by
 refine Z7h ?_;intro hs0 har1 har2 hsr k1 k2 st1 st2 pd1 pd2 hS q1 q2 q3 q4 q5 q6 q7 hNI hN2 hel
 obtain⟨F,hF⟩:∃ F,F=gridF b d (mostF zs H W C S P kk):=⟨_,rfl⟩
 rw [← hF]
 obtain⟨i0,hi0,hi1,hi2,hi3⟩:=zbf info_i8p
 have hkk7:kk≤7:=by omega
 have hkk2:kk * kk≤49:=Nat.le_trans (Nat.mul_le_mul hkk7 hkk7) Zb3
 subst hk
 refine Zao ?_;intro HT HE HS HEL
 have HF:=hid hF
 have HN:=hid hn
 have HZ:=hid hz
 have HD:=hid hd
 have HNN:=hid hN
 have HR:=hid hr
 clear ht he hS hel hF hn hz hd hN hr hs0 har1 har2 hsr q7 hNI ha hb
 go_enter Tryz.func23,Tryz.ntmps23
 go_wp2_with (first
  | (go_at_call 22
     refine Z81 ?_;intro hal
     refine (zal H W C A n c true HT.out _).mono ?_
     rintro e w1 ⟨rfl,hb⟩
     refine Z5z ?_;intro hh TB yTB
     refine Zaf ?_;intro qTN
     refine Z61 ?_;intro TN yTN
     clear qTN
     refine Z9j ?_;intro qFR
     refine Z6c ?_;intro FR yFR
     clear qFR
     refine Z71 ?_;intro HBW
     have n3:=TN.out.at 3 _ rfl;have n4:=TN.out.at 4 _ rfl;have n5:=TN.out.at 5 _ rfl
     obtain⟨tbp0,tbp1,tbp2,tbp3⟩:=TB.out
     clear hb hh hal)
  | (go_at_call 66
     refine Z72 ?_;intro hal
     refine (zbl H W C (kk:Int) S P C 0 _ HE.out HS.out _).mono ?_
     rintro e w2 ⟨rfl,hb⟩
     refine Z6r ?_;intro hh
     refine Z60 ?_;try clear TB yTB TN yTN FR yFR;intro TB yTB TN yTN FR yFR
     refine Z74 ?_;try clear HBW;intro HBW
     clear tbp0 tbp1 tbp2 tbp3
     clear n3 n4 n5
     refine Z9x ?_;intro hg2 tbp0 tbp1 tbp2 tbp3
     clear hb hh hal))
 refine Z70 ?_;clear TB TN FR yTB yTN yFR tbp0 tbp1 tbp2 tbp3 HBW hg2;intro h63 HOT hOA hW hzz
 generalize ((w2.alloc (.cells #[Jj Jq (a:Int),Jj Jq (b:Int),Jj Jq C] 30)).alloc (.cells #[Jj Jq (a:Int),Jj Jq (b:Int),Jj Jq C,.slice none 0 0] 32))=Wm at hOA hW HOT hzz ⊢
 generalize w2.heap.size=g6 at hOA hW HOT h63 hzz ⊢
 go_loopw [11] (fun u wr=>∃ (k:Nat) (v:Value),k≤N∧u=Jj Jq k∧Hid (OfAt w H W C A n c x0 x1 x2 x8 x11 x12 x13 x14 x15 x16 x17 x18 (kk:Int) S P O Z WA BA nW cW nB cB (a:Int) (b:Int) C g6 wr)∧Hid (PutAt (g6+1) (a:Int) (b:Int) C v wr)∧Hid (wr.ownsRow (g6+2) 22 1 v k (I8s (rowL F k)))∧g6+2≤wr.heap.size) (fun u _=>N - (intOf u).toNat)
 case atStart=>exact⟨0,_,Nat.zero_le _,rfl,hOA,HOT,hW,hzz⟩
 case round =>
  obtain⟨k,v0,hk,rfl,hA0,hT0,hW0,hz0⟩:=hrel
  clear hOA hW HOT hzz
  obtain⟨-, -, -,⟨s1,s2,s3⟩, -, -⟩:=hA0.out
  by_cases hlt:k < N
  ·have hkI:(k:Int) < (N:Int):=by omega
   refine Z93 ?_;intro hk0
   obtain⟨r,hr⟩:∃ r:Nat,k / d=r:=⟨_,rfl⟩
   obtain⟨o,ho⟩:∃ o:Nat,k % d=o:=⟨_,rfl⟩
   obtain⟨h,hh⟩:∃ h:Nat,r / b=h:=⟨_,rfl⟩
   obtain⟨v,hv⟩:∃ v:Nat,r % b=v:=⟨_,rfl⟩
   refine Z77 ?_;intro hd1 hb1 hrk hrab hha hvb hod hh16 hv16 c0 b0 b0n d1 d2 d3 d4 hrl w1 w2 w3 w4 L hL hL8 hLn
   obtain⟨x,hx⟩:∃ x,topZ L=x:=⟨_,rfl⟩
   have hFk:F k=x:=by
    rw [HF.out, ← hx, ← hL]
    unfold gridF mostF
    rw [hr,hh,hv,ho]
   have HLL:=hid hL
   have HL8:=hid hL8
   have HXX:=hid hx
   have HFK:=hid hFk
   clear hr ho hh hv hL hL8 hx hFk hrk hrab
   go_wp2_with (go_at_call 65;(refine (zas (a:Int) (b:Int) C _ HEL.out _).mono ?_);rintro e Wa ⟨rfl,hbe⟩;have hA1:=hid (hA0.out.below h63 (B':=wr.heap.size) Zb3 hbe);have hT1:=hid (hT0.out.below (B':=wr.heap.size) Zb3 hbe);have hW1:=hid (Kit.own_below hW0.out hbe);have hz1:=Nat.le_trans hz0 hbe.size;clear hA0 hT0 hW0 hz0 s1 s2 s3 hbe)
   obtain⟨hbx,hnd, -,hsh,hbw, -⟩:=hA1.out
   refine wp_region_held_drew (S:=fun w'=>BoxAt w.heap.size H W C A n c w'∧zae (w.heap.size+1) x0 x1 x2 x8 x11 x12 x13 x14 x15 x16 x17 x18 (kk:Int) S P O Z WA BA nW cW nB cB w'∧zbg g6 (a:Int) (b:Int) C w') Zb5 ⟨hbx,hnd,hsh⟩ (fun hHeld=>?_)
   have HBW:=hid hbw.drew
   clear hbx hnd hsh hbw
   refine Z8r ?_;intro hA2 hT2 hW2 hz2
   clear hA1 hT1 hW1 hz1
   generalize Wa.drew=Wb at HBW hA2 hT2 hW2 hz2 hHeld ⊢
   refine Tk.y 0 (v:=?_) rfl ?_ ?_
   rotate_left
   ·exact Z4x
   refine Z5y ?_
   refine Tk.t 1 (v:=.agg #[x0,x1,x2,Jj Jq (kk:Int),Jj Jq S,Jj Jq P,Jj Jq O,.int .i8 Z,x8,.slice WA nW cW,.slice BA nB cB,x11,x12,x13,x14,x15,x16,x17,x18]) rfl (yieldsIf_load_mid Zbu _ _ rfl (w.heap.size+1) 0 rfl [x0,x1,x2,Jj Jq (kk:Int),Jj Jq S,Jj Jq P,Jj Jq O,.int .i8 Z,x8,.slice WA nW cW,.slice BA nB cB,x11,x12,x13,x14,x15,x16,x17,x18] _ (fun w' h=>h.2.1) Tryz.underlying28 rfl Zb5) Zbd ?_
   refine Z5y ?_
   refine Z8w ?_
   refine Z5y ?_
   refine Z94 ?_
   refine Z5y ?_
   refine Tk.y 4 (v:=?_) rfl ?_ ?_
   rotate_left
   ·exact Z3l
   refine Z5y ?_
   refine Za1 ?_
   refine Z5y ?_
   refine Z9e ?_
   refine Z5y ?_
   refine Tk.y 7 (v:=?_) rfl ?_ ?_
   rotate_left
   ·exact Z3l
   refine Z5y ?_
   refine Z9f ?_
   refine Z5y ?_
   refine Zan ?_
   refine Z5y ?_
   refine Z9o ?_
   refine Z5y ?_
   refine Tk.y 11 (v:=?_) rfl ?_ ?_
   rotate_left
   ·exact Z3l
   refine Z5y ?_
   refine Zag ?_
   refine Z5y ?_
   refine Za6 ?_
   refine Z5y ?_
   refine Tk.y 14 (v:=?_) rfl ?_ ?_
   rotate_left
   ·exact Z3l
   refine Z5y ?_
   refine Tk.x 15 rfl ?_
   refine Z5y ?_
   refine Zak ?_
   refine Z5y ?_
   refine Tk.x 17 rfl ?_
   refine Z5y ?_
   refine Tk.y 18 (v:=?_) rfl ?_ ?_
   rotate_left
   ·exact Z3l
   refine Z5y ?_
   refine Tk.x 19 rfl ?_
   refine Z5y ?_
   refine Tk.s 20 rfl (fun Kq hK=>?_)
   go_simp
   go_at_call 67
   refine (refWindow_to H W C A zs n c HN.out HT.out x0 x1 x2 x8 x11 x12 x13 x14 x15 x16 x17 x18 (kk:Int) S P O Z WA BA nW cW nB cB kk o d HD.out rfl hkk7 hod h v hh16 hv16 st1 st2 pd1 pd2 _ ((HR.out.below HBW.out).more HBW.out.size) L HLL.out).mono ?_
   rintro e Wc ⟨lv,rfl,hown,hb1⟩
   refine Z8b ?_;try clear HBW hA2 hT2 hW2 hz2;intro hS1 HBW hA2 hT2 hW2 hz2
   obtain⟨Al,cl,rfl, -, -,hrd⟩:=Kit.zaj hown
   have HRL:=hid hrd
   clear hown hrd hb1 hHeld
   dsimp only
   refine hK.out _ _ ?_ (fun hHeld=>?_)
   ·exact hS1
   clear hK Kq
   refine Z5y ?_
   refine Tk.x 21 rfl ?_
   refine Z5y ?_
   refine Z6y ?_
   clear hHeld d1 d2 d3 d4 w1 w2 w3 w4 c0 b0 b0n hha hvb hod
   obtain⟨Av,cv,rfl, -, -, -⟩:=Kit.zaj hW2.out
   go_wp2_with (first
    | (go_at_call 68;(refine (refReach_top Al L L.length cl rfl Zb3 x HXX.out _ HRL.out).mono ?_);rintro e Wd ⟨⟨lo,rfl⟩,q,hq⟩;(have hb1:Below Wc.heap.size Wc Wd:=by (rw [hq];exact Kit.below_drewN (Below.refl _ _) q));have hA3:Hid (OfAt w H W C A n c x0 x1 x2 x8 x11 x12 x13 x14 x15 x16 x17 x18 (kk:Int) S P O Z WA BA nW cW nB cB (a:Int) (b:Int) C g6 Wd):=hid (hA2.out.below h63 Zb3 hb1);have hT3:Hid (PutAt (g6+1) (a:Int) (b:Int) C (.slice Av k cv) Wd):=hid (hT2.out.below Zb3 hb1);have hW3:=hid (Kit.own_below hW2.out hb1);have hsz:=Nat.le_trans hz2 hb1.size;clear hA2 hT2 hW2 hz2 hq hb1 HRL HBW;obtain⟨-, -, -,ov3,ovf⟩:=hT3.out)
    | (at_builtin;(refine Kit.zbb _ rfl (.tmp 74) (.tmp 76) _ rfl (g6+2) 22 i0 (.int .i8 0) 1 1 Tryz.underlying23 hi0 hi1 hi2 hi3 rfl Zbc _ k (I8s (rowL F k)) rfl (Kit.own_below hW3.out ((Below.refl _ _).alloc (le_refl _) _)) _ _ 1 1 [.int .i8 x] rfl rfl (Kit.Rd.new _ _ _ (lt_succ_self _)) ?_ ?_ ?_ ?_ ?_);(exact Kit.za5 .i8 [x]);(unfold maxLen;omega);(omega);(simp;omega);intro v5 w5 hown5 hg5 hat5;obtain⟨A5,c5,rfl, -, -, -⟩:=Kit.zaj hown5;have hal:Below (g6+2) Wd (Wd.alloc (.cells #[.int .i8 x] 22)):=(Below.refl _ _).alloc hsz _;(have hB5:Below (g6+2) Wd w5:=hal.grown hg5 (by (simp;omega)) (fun q hq=>Kit.zaq hW3.out q hq));rw [zcr F k x HFK.out] at hown5;replace hA3:=hid (hA3.out.below h63 Zb3 hB5);replace hT3:=hid (hT3.out.below Zb3 hB5);replace hW3:=hid hown5;replace hsz:=Nat.le_trans hsz hB5.size;clear hal hB5 hown5 hg5 hat5 ov3 ovf;obtain⟨-, -, -,ov3,ovf⟩:=hT3.out))
   refine Z8v ?_;intro hb9 hA4 hT4 hW4 hz4
   clear hA3 hT3 hW3 hsz hb9 ov3 ovf
   exact Z4t
  ·obtain rfl:k=N:=by omega
   exact Z10
end CPool
end
section
namespace CPad
open Plain CSat CShape CTensor
theorem wpList_copy_row {P:Program} {w:World} {ops:Array Oper} {rest:List Oper} {o:Oper} {a:Act} {Q:Exit→Act→World→Prop} (hgd:o.guard=none) (d s:Operand) (dT sT:TypeId)
  (ho:o.op=.call { callee:=.builtin .copy,args:=#[d,s],argTypes:=#[dT,sT] }) (elem:TypeId) (hu:P.underlying dT=some (.slice elem)) (hsz:(P.info? elem).map (·.size)=some 1)
  (g off dLen dCap:Nat) (ad:Addr) (sLen sCap:Nat) (hd:a.eval d=.slice (some ⟨g,off,none⟩) dLen dCap) (hs:a.eval s=.slice (some ad) sLen sCap)
  (cur:List Value) (t:TypeId) (hg:w.heap[g]?=some (.cells cur.toArray t (0,0))) (cs:List Value) (hn:cs.length=Nat.min sLen dLen)
  (hsrc:∀ j v,cs[j]?=some v→w.cell? (ad.add j)=some v) (hfit:off+cs.length≤cur.length) (h1:∀ v∈cs,v.oneCell'=true)
  (h:∀ w',Hid (w'.heap[g]?=some (.cells (splice cur off cs).toArray t (0,0)))→w.grownBy w' (some g)→wpList P ops Q rest (a.put o.dst (goInt cs.length)) w') :
  wpList P ops Q (o :: rest) a w:=by
 refine wpList_copy_own hgd d s dT sT ho elem hu hsz g off dLen dCap ad sLen sCap hd hs cur.toArray t hg cs hn hsrc (by simpa using hfit) h1 ?_
 exact h _ (show _=_ by simpa [splice] using setRow_heap w g _ _ t _ hg) ⟨rfl,rfl,rfl,by simp [World.setRow],fun k _ hk=>setRow_other w g k _ (fun e=>hk (by rw [e]))⟩
theorem cell_grown {w w':World} {g:Nat} (hg:w.grownBy w' (some g)) {b o:Nat} {v:Value} (hb:b≠g) (h:w.cell? ⟨b,o,none⟩=some v):w'.cell? ⟨b,o,none⟩=some v :=
 hg.cell h (fun e=>hb (by injection e))
theorem zc0 {w w':World} {g:Nat} (hg:w.grownBy w' (some g)) {b o:Nat} (hl:b < w.heap.size) (hb:b≠g):w'.frozen? ⟨b,o,none⟩=w.frozen? ⟨b,o,none⟩ :=
 World.frozen?_of_block (hg.block b hl (fun e=>hb (by injection e)))
theorem rd_own {w:World} {base:Nat} {e:TypeId} {g n cap:Nat} {xs:List Value} (h:w.ownsRow base e 1 (.slice (some ⟨g,0,none⟩) n cap) n xs):∀ j v,xs[j]?=some v→w.cell? ((⟨g,0,none⟩:Addr).add j)=some v:=by
 intro j v hj
 have hl:xs.length=n:=by simpa using h.1
 have hjl:j < n:=by
  rcases Nat.lt_or_ge j xs.length with h1 | h1
  ·omega
  ·rw [List.getElem?_eq_none h1] at hj;cases hj
 have e:(⟨g,0,none⟩:Addr).add j=⟨g,j,none⟩:=by
  exact Z2g
 rw [e,h.cellAt j Zb3]
 exact hj
theorem own_other {w:World} {base:Nat} {e:TypeId} {g n cap:Nat} {xs:List Value} (h:w.ownsRow base e 1 (.slice (some ⟨g,0,none⟩) n cap) n xs) {w':World} {r:Nat} (hg:w.grownBy w' (some r)) (hr:g≠r):w'.ownsRow base e 1 (.slice (some ⟨g,0,none⟩) n cap) n xs :=
 h.kept hg (.inr (fun e=>hr (by injection e)))
def zc4 (w:World) (U V C:Int) (g2 c2 m g6:Nat) (wr:World):Prop :=
 zbt w.heap.size U V C wr∧zbs (w.heap.size+1) wr∧BoxAt g6 U V C (some ⟨g2,0,none⟩) m c2 wr∧Below w.heap.size w wr∧g6+2≤wr.heap.size
theorem zc4.below {w:World} {U V C:Int} {g2 c2 m g6 B':Nat} {w1 w2:World} (h:zc4 w U V C g2 c2 m g6 w1) (h6:w.heap.size+2≤g6) (hB:g6 < B') (hb:Below B' w1 w2):zc4 w U V C g2 c2 m g6 w2:=by
 obtain⟨a1,a2,a3,a4,a5⟩:=h
 exact⟨a1.below Zb3 hb,a2.below Zb3 hb,a3.below hB hb,a4.trans (hb.mono Zb3),Nat.le_trans a5 hb.size⟩
theorem zc4.grown {w:World} {U V C:Int} {g2 c2 m g6:Nat} {w1 w2:World} (h:zc4 w U V C g2 c2 m g6 w1) (h2:w.heap.size+2≤g2) (h6:g2 < g6) (hg:w1.grownBy w2 (some g2)):zc4 w U V C g2 c2 m g6 w2:=by
 obtain⟨⟨a1,a2,a3⟩,⟨⟨b1,b2,b3,b4⟩,b5,b6,b7,b8⟩,⟨d1,d2,d3,d4⟩,a4,a5⟩:=h
 have hl:w.heap.size+1 < w1.heap.size:=by omega
 have k1:w.heap.size≠g2:=by omega
 have k2:w.heap.size+1≠g2:=by omega
 have k3:g6≠g2:=by omega
 exact⟨⟨cell_grown hg k1 a1,cell_grown hg k1 a2,cell_grown hg k1 a3⟩,⟨⟨cell_grown hg k2 b1,cell_grown hg k2 b2,cell_grown hg k2 b3,cell_grown hg k2 b4⟩,(zc0 hg hl k2).trans b5,(zc0 hg hl k2).trans b6,(zc0 hg hl k2).trans b7,(zc0 hg hl k2).trans b8⟩,
  ⟨cell_grown hg k3 d1,cell_grown hg k3 d2,cell_grown hg k3 d3,cell_grown hg k3 d4⟩,a4.grown hg Zb3 (fun k hk=>by injection hk;omega),Nat.le_trans a5 hg.size⟩
def zci (g L:Nat) (F:Nat→Int) (q i:Nat) (wr:World):Prop :=
 ∃ ys:List Int,ys.length=L∧(∀ j,j < i→ys[j]?=some (F (q+j)))∧wr.ownsRow g 22 1 (.slice (some ⟨g,0,none⟩) L L) L (I8s ys)
theorem zci.below {g L:Nat} {F:Nat→Int} {q i:Nat} {w1 w2:World} (h:zci g L F q i w1) (hb:Below w1.heap.size w1 w2):zci g L F q i w2:=by
 obtain⟨ys,a1,a2,a3⟩:=h
 exact⟨ys,a1,a2,Kit.own_below a3 hb⟩
theorem zci.other {g L:Nat} {F:Nat→Int} {q i r:Nat} {w1 w2:World} (h:zci g L F q i w1) (hg:w1.grownBy w2 (some r)) (hr:g≠r):zci g L F q i w2:=by
 obtain⟨ys,a1,a2,a3⟩:=h
 exact⟨ys,a1,a2,own_other a3 hg hr⟩
theorem zci.any {g L:Nat} {F:Nat→Int} {q i:Nat} {w1:World} (h:zci g L F q i w1) (F':Nat→Int) (q':Nat):zci g L F' q' 0 w1:=by
 obtain⟨ys,a1,a2,a3⟩:=h
 exact⟨ys,a1,fun j hj=>absurd hj (Nat.not_lt_zero _),a3⟩
theorem zci.cell {g L:Nat} {F:Nat→Int} {q i:Nat} {w1:World} (h:zci g L F q i w1) (j:Nat) (hj:j < L):(∃ y:Int,w1.cell? ⟨g,j,none⟩=some (.int .i8 y))∧w1.frozen? ⟨g,j,none⟩=false:=by
 obtain⟨ys,a1,a2,a3⟩:=h
 refine⟨⟨ys[j]' Zb3,?_⟩,a3.frozenAt j⟩
 rw [a3.cellAt j Zb3]
 simp [I8s,List.getElem?_eq_getElem (show j < ys.length by omega)]
theorem zci.set {g L:Nat} {F:Nat→Int} {q i:Nat} {w1:World} (h:zci g L F q i w1) (hi:i < L) (x:Int) (hx:F (q+i)=x):zci g L F q (i+1) (w1.setCell ⟨g,i,none⟩ (.int .i8 x)):=by
 obtain⟨ys,a1,a2,a3⟩:=h
 obtain⟨b1,b2⟩:=line_set a1 a2 hi hx
 have:=(a3.stored i (.int .i8 x)).1
 rw [I8s_set] at this
 exact⟨_,b1,b2,this⟩
theorem line_new (w:World) (L:Nat) (hL:L≤1024) (F:Nat→Int) (q:Nat):zci w.heap.size L F q 0 (w.alloc (.cells (madeCells #[.int .i8 0] L) 22)):=by
 refine⟨List.replicate L 0,by simp,fun j hj=>absurd hj (Nat.not_lt_zero _),?_⟩
 have h:=World.ownsRow_lit (base:=w.heap.size) (e:=22) (size:=1) w (madeCells #[.int .i8 0] L) L (le_refl _) (by unfold maxLen;omega) Zbn
 have e:(madeCells #[Value.int .i8 0] L).toList=I8s (List.replicate L 0):=by rw [toList_madeCells_one];simp [I8s]
 rw [e] at h
 exact h
theorem setCell_grown (w:World) (g j:Nat) (u:Value):w.grownBy (w.setCell ⟨g,j,none⟩ u) (some g):=⟨rfl,rfl,rfl,by simp,fun k _ hk=>heap_setCell_other w ⟨g,j,none⟩ k u (fun e=>hk (by simp [e]))⟩
theorem build_no (U V C:Int) (hs:zam U V C=false) (f:Value) (w:World) :
  Calls Tryz.prog 56 #[.agg #[Jj Jq U,Jj Jq V,Jj Jq C],f] w fun e w'=>e=.returned (.tuple #[.agg #[Jj Jq 0,Jj Jq 0,Jj Jq 0,.slice none 0 0],Jj Jq 5])∧Below w.heap.size w w':=by
 have HS:=hid hs
 clear hs
 go_enter Tryz.func56,Tryz.ntmps56
 go_wp2_with (go_at_call 104;((refine (fill_no U V C 0 HS.out _).mono ?_);(rintro e w1 ⟨rfl,hb⟩;obtain⟨hc,hf⟩:=Kit.bcell hb;have hz:w.heap.size+2≤w1.heap.size:=Zbb;have hz1:w.heap.size+1 < w1.heap.size:=Zb3;have HB:Hid (Below w.heap.size w w1):=hid (Below.trans (((Below.refl _ _).alloc (le_refl _) _).alloc Zb7 _) (hb.mono Zba));clear hb)))
 refine bodyPost_ret (Kit.zaa rfl _ _ (w.heap.size+1) 0 [Jj Jq 0,Jj Jq 0,Jj Jq 0,.slice none 0 0] _ rfl (zao Zb6 Zb6 Zb6 Zb6) Tryz.underlying32 rfl Zb5) rfl ?_
 exact⟨rfl,((((HB.out.setCell (p:=⟨w.heap.size+1,0,none⟩) Zb7 _).setCell (p:=⟨w.heap.size+1,1,none⟩) Zb7 _).setCell (p:=⟨w.heap.size+1,2,none⟩) Zb7 _).setCell (p:=⟨w.heap.size+1,3,none⟩) Zb7 _).alloc Zba _⟩
theorem build_yes (U V H W C:Int) (A:Option Addr) (zs:List Int) (n c:Nat) (hn:zs.length=n) (hc:n≤c) (ht:tensB H W C n=true) (hs:zam U V C=true) (a b d:Nat) (hU:U=(a:Int)) (hV:V=(b:Int)) (hC:C=(d:Int)) (m:Nat) (hm:a * b * d=m)
  (p q z:Int) (F:Nat→Int) (hF:∀ i j k:Nat,i < a→j < b→k < d→pixZ zs H W C (IntKind.i64.wrap ((i:Int) - p)) (IntKind.i64.wrap ((j:Int) - q)) (k:Int) z=F ((i * b+j) * d+k))
  {B Bz:Nat} (w:World) (hM:MovedAt B H W C A n c p q z w) (hB:B+4≤w.heap.size) (hBz:Bz≤w.heap.size) (hr:Kit.Rd w Bz A (I8s zs)) :
  Calls Tryz.prog 56 #[.agg #[Jj Jq U,Jj Jq V,Jj Jq C],movedF B] w (Made w U V C m (rowL F m) (Jj Jq 0)):=by
 obtain⟨s1,s2,s3,s4,s5,s6,s7⟩:=zac hs
 have hmI:U * V * C=(m:Int):=by rw [hU,hV,hC, ← hm];simp
 have hpos:=(zcs s1 s2 s3 s4 s5 s6).1
 have hm2:m≤1024:=by omega
 have hm1:0 < m:=by omega
 obtain⟨L,hL⟩:∃ L,b * d=L:=⟨_,rfl⟩
 have haL:a * L=m:=by rw [← hL, ← Nat.mul_assoc];exact hm
 have hVC:V * C=(L:Int):=by rw [hV,hC, ← hL];simp
 have hL1:L≤1024:=by
  have:1≤a:=by omega
  have:=Nat.mul_le_mul_right L this
  omega
 have hL0:0 < L:=by
  rcases Nat.eq_zero_or_pos L with h | h
  ·rw [h] at haL;omega
  ·exact h
 have hLI:(L:Int)≤1024:=by omega
 have hmk:=run_make_row' (P:=Tryz.prog) 23 22 (.int .i8 0) 1 Tryz.underlying23 info_i8 rfl .i64 .i64 L Zb3 Zb3
 have hsz:(Tryz.prog.info? 22).map (·.size)=some 1:=by kernel_rfl
 have HSZ:=hid hsz
 have HS:=hid hs
 have HMI:=hid hmI
 have HU:=hid hU
 have HV:=hid hV
 have HCd:=hid hC
 have HaL:=hid haL
 have HL:=hid hL
 have HF:=hid hF
 have HN:=hid hn
 have HT:=hid ht
 have HR:=hid hr
 have HM:=hid hM
 have hd1:1≤d:=by omega
 clear hsz hs hmI hU hV hC haL hL hF hn ht hr hM hpos hm s7
 unfold movedF
 go_enter Tryz.func56,Tryz.ntmps56
 go_wp2_with (go_at_call 104;(refine (fill_yes U V C 0 m HS.out HMI.out _).mono ?_);(rintro e w1 ⟨v1,rfl,ho1,hb⟩;obtain⟨g2,c2,rfl,hc2,hcm,hgb,hgs⟩:=own_nonempty ho1 hm1;obtain⟨hcc,hff⟩:=Kit.bcell hb;have HO:=hid ho1;have hz:w.heap.size+2≤w1.heap.size:=Zbb;have hz1:w.heap.size+1 < w1.heap.size:=Zb3;have hz0:w.heap.size < w1.heap.size:=Zb3;have HB:=hid hb;clear hb ho1))
 clear hcc hff
 rw [World.size_alloc,World.size_alloc] at hgb
 have hO0:=HO.out
 rw [World.size_alloc,World.size_alloc] at hO0
 have HO:Hid (((w1.alloc (.cells #[Jj Jq U,Jj Jq V,Jj Jq C,.slice (some ⟨g2,0,none⟩) m c2] 32)).alloc (.cells (madeCells #[.int .i8 0] L) 22)).ownsRow (w.heap.size+2) 22 1 (.slice (some ⟨g2,0,none⟩) m c2) m (dataL F m 0)):=by
  rw [dataL_zero]
  exact hid ((hO0.alloc _).alloc _)
 clear hO0
 have HLN:Hid (zci (w1.heap.size+1) L F 0 0 ((w1.alloc (.cells #[Jj Jq U,Jj Jq V,Jj Jq C,.slice (some ⟨g2,0,none⟩) m c2] 32)).alloc (.cells (madeCells #[.int .i8 0] L) 22))):=by
  have:=line_new (w1.alloc (.cells #[Jj Jq U,Jj Jq V,Jj Jq C,.slice (some ⟨g2,0,none⟩) m c2] 32)) L hL1 F 0
  rw [World.size_alloc] at this
  exact hid this
 have HW:Hid (zc4 w U V C g2 c2 m w1.heap.size ((w1.alloc (.cells #[Jj Jq U,Jj Jq V,Jj Jq C,.slice (some ⟨g2,0,none⟩) m c2] 32)).alloc (.cells (madeCells #[.int .i8 0] L) 22))):=by
  have hb:=HB.out
  have e2:((w.alloc (.cells #[Jj Jq U,Jj Jq V,Jj Jq C] 30)).alloc (.cells #[Jj Jq 0,Jj Jq 0,Jj Jq 0,.slice none 0 0] 32)).heap.size=w.heap.size+2:=by simp
  have hb9:Below w1.heap.size w1 ((w1.alloc (.cells #[Jj Jq U,Jj Jq V,Jj Jq C,.slice (some ⟨g2,0,none⟩) m c2] 32)).alloc (.cells (madeCells #[.int .i8 0] L) 22)):=((Below.refl _ _).alloc (le_refl _) _).alloc Zb7 _
  have hS:=((((zbt.new U V C 30 w).below (lt_succ_self _) ((Below.refl _ _).alloc Zb7 (.cells #[Jj Jq 0,Jj Jq 0,Jj Jq 0,.slice none 0 0] 32))).below (B':=w.heap.size+2) Zb3 (by rw [e2] at hb;exact hb))).below hz0 hb9
  have hFr:=((zbs.new 32 (w.alloc (.cells #[Jj Jq U,Jj Jq V,Jj Jq C] 30)) (w.heap.size+1) Zb7).below (B':=w.heap.size+2) Zb3 (by rw [e2] at hb;exact hb)).below hz1 hb9
  have hBx:=(BoxAt.new U V C (some ⟨g2,0,none⟩) m c2 32 w1).below (lt_succ_self _) ((Below.refl _ _).alloc Zb7 (.cells (madeCells #[.int .i8 0] L) 22))
  exact hid ⟨hS,hFr,hBx,((((Below.refl _ _).alloc (le_refl _) _).alloc Zb7 _).trans (hb.mono Zba)).trans (hb9.mono Zb3),by simp⟩
 generalize (w1.alloc (.cells #[Jj Jq U,Jj Jq V,Jj Jq C,.slice (some ⟨g2,0,none⟩) m c2] 32)).alloc (.cells (madeCells #[.int .i8 0] L) 22)=Wm at HO HLN HW ⊢
 clear HB
 generalize w1.heap.size=g6 at HO HLN HW hz hz1 hz0 hgs ⊢
 go_loopw [28] (fun x wr=>∃ (i q0:Nat),i≤a∧x=Jj Jq i∧Hid (zc4 w U V C g2 c2 m g6 wr)∧Hid (wr.ownsRow (w.heap.size+2) 22 1 (.slice (some ⟨g2,0,none⟩) m c2) m (dataL F m (i * L)))∧Hid (zci (g6+1) L F q0 0 wr)) (fun x _=>a - (intOf x).toNat)
 case atStart=>exact⟨0,0,Nat.zero_le _,rfl,HW,by rw [Nat.zero_mul];exact HO,HLN⟩
 case round =>
  obtain⟨i,q0,hi,rfl,hW0,hO0,hL0'⟩:=hrel
  clear HW HO HLN
  obtain⟨⟨a1,a2,a3⟩,⟨⟨z0,z1,z2,z3⟩,z4,z5,z6,z7⟩,⟨b0,b1,b2,b3⟩,hbw,hsz⟩:=hW0.out
  have HBW:=hid hbw
  clear hbw
  by_cases hlt:i < a
  ·have hiI:(i:Int) < U:=by have:=HU.out;omega
   have hi0:(0:Int)≤(i:Int):=by omega
   have hiI2:(i:Int)≤16:=by omega
   obtain⟨o,ho⟩:∃ o,i * L=o:=⟨_,rfl⟩
   have hoI:(i:Int) * (L:Int)=(o:Int):=by rw [← ho];simp
   have hom:o+L≤m:=by
    have:=Nat.mul_le_mul_right L hlt
    rw [Nat.succ_mul,HaL.out,ho] at this
    exact this
   rw [ho] at hO0
   have HOI:=hid hoI
   have HOO:=hid ho
   replace hL0':=hid (hL0'.out.any F o)
   clear hoI ho
   go_wp2_with fail
   go_loopw [33] (fun x wr=>∃ (j:Nat),j≤L∧x=Jj Jq j∧Hid (zc4 w U V C g2 c2 m g6 wr)∧Hid (wr.ownsRow (w.heap.size+2) 22 1 (.slice (some ⟨g2,0,none⟩) m c2) m (dataL F m o))∧Hid (zci (g6+1) L F o j wr)) (fun x _=>L - (intOf x).toNat)
   case atStart=>exact⟨0,Nat.zero_le _,rfl,hW0,hO0,hL0'⟩
   case round =>
    obtain⟨j,hj,rfl,hW1,hO1,hL1'⟩:=hrel
    clear hW0 hO0 hL0' a1 a2 a3 z0 z1 z2 z3 z4 z5 z6 z7 b0 b1 b2 b3 hsz HBW
    obtain⟨hSh, -,⟨b0,b1,b2,b3⟩,hbw,hsz⟩:=hW1.out
    have HBW:=hid hbw
    clear hbw
    by_cases hltj:j < L
    ·have hjI:(j:Int) < (L:Int):=by omega
     have hj0:(0:Int)≤(j:Int):=by omega
     obtain⟨y,hy⟩:∃ y,j / d=y:=⟨_,rfl⟩
     obtain⟨k,hk⟩:∃ k,j % d=k:=⟨_,rfl⟩
     have hkd:k < d:=by rw [← hk];exact Nat.mod_lt _ hd1
     have hyb:y < b:=by rw [← hy];exact Nat.div_lt_of_lt_mul (by rw [Nat.mul_comm,HL.out];exact hltj)
     have hjy:y * d+k=j:=by rw [← hy, ← hk,Nat.mul_comm];exact Nat.div_add_mod j d
     obtain⟨x,hx⟩:∃ x,F (o+j)=x:=⟨_,rfl⟩
     have hF1:pixZ zs H W C (IntKind.i64.wrap ((i:Int) - p)) (IntKind.i64.wrap ((y:Int) - q)) (k:Int) z=x:=by
      rw [HF.out i y k hlt hyb hkd, ← hx, ← HOO.out, ← HL.out,Nat.add_mul,Nat.mul_assoc,Nat.add_assoc,hjy]
     have HX:=hid hF1
     have HXX:=hid hx
     have hqt:((j:Int)).tdiv C=(y:Int):=by rw [HCd.out,Int.tdiv_eq_ediv_of_nonneg hj0, ← hy];rfl
     have hrt:((j:Int)).tmod C=(k:Int):=by rw [HCd.out,Int.tmod_eq_emod_of_nonneg hj0, ← hk];rfl
     have hwy:IntKind.i64.wrap (y:Int)=(y:Int):=IntWalk.i64_in _ (by have:=HV.out;omega)
     have hwk:IntKind.i64.wrap (k:Int)=(k:Int):=IntWalk.i64_in _ (by have:=HCd.out;omega)
     have hC0:¬ C=0:=by omega
     have hkC:(k:Int) < C:=by have:=HCd.out;omega
     refine Z93 ?_;intro hk0
     have hHWc:n≤c:=hc
     clear hF1 hx hy hk hjy b0 b1 b2 b3
     go_wp2_with fail
     refine wp_region_held_drew (S:=zbt w.heap.size U V C) Zb5 hSh (fun hHeld=>?_)
     clear hSh
     replace HBW:=hid HBW.out.drew
     have hW2:Hid (zc4 w U V C g2 c2 m g6 wr.drew):=hid (hW1.out.below (B':=g6+1) hz Zb3 (Below.refl _ _).drew)
     have hO2:Hid (wr.drew.ownsRow (w.heap.size+2) 22 1 (.slice (some ⟨g2,0,none⟩) m c2) m (dataL F m o)):=hid (Kit.own_below hO1.out (Below.refl _ _).drew)
     have hL2:Hid (zci (g6+1) L F o j wr.drew):=hid (hL1'.out.below (Below.refl _ _).drew)
     have hsz:g6+2≤wr.drew.heap.size:=hsz
     clear hW1 hO1 hL1'
     generalize wr.drew=Wa at HBW hW2 hO2 hL2 hsz hHeld ⊢
     refine Z8l ?_
     refine Z5y ?_
     refine Tk.x 1 rfl ?_
     refine Z5y ?_
     refine Z8w ?_
     refine Z5y ?_
     refine Z94 ?_
     refine Z5y ?_
     refine Z9b ?_
     refine Z5y ?_
     refine Za1 ?_
     refine Z5y ?_
     refine Tk.y 6 (v:=?_) rfl ?_ ?_
     rotate_left
     ·exact Z50
     refine Z5y ?_
     refine Z9w ?_
     refine Z5y ?_
     refine Z9f ?_
     refine Z5y ?_
     refine Zan ?_
     refine Z5y ?_
     refine Tk.y 10 (v:=?_) rfl ?_ ?_
     rotate_left
     ·exact Z50
     refine Z5y ?_
     refine Za5 ?_
     refine Z5y ?_
     refine Tk.s 12 rfl (fun K hK=>?_)
     go_simp
     go_at_call 105
     refine (moved1_to H W C A zs n c HN.out hHWc HT.out (i:Int) (y:Int) (k:Int) p q z _ _ rfl rfl hk0 hkC x HX.out (B:=B) (Bz:=Bz) _ (HM.out.below hB HBW.out) (Nat.le_trans hB HBW.out.size) (Nat.le_trans hBz HBW.out.size) (HR.out.below (HBW.out.mono hBz))).mono ?_
     rintro e Wb ⟨rfl,hb1⟩
     have hS1:=hHeld.below (B':=_) Zb3 hb1
     replace hW2:=hid (hW2.out.below hz Zb3 hb1)
     replace hO2:=hid (Kit.own_below hO2.out hb1)
     replace hL2:=hid (hL2.out.below hb1)
     replace hsz:=Nat.le_trans hsz hb1.size
     obtain⟨⟨y0,hcl⟩,hfz⟩:=hL2.out.cell j hltj
     clear hb1 hHeld HBW
     dsimp only
     refine hK.out _ _ ?_ (fun hHeld=>?_)
     ·exact hS1
     clear hK K
     refine Z5y ?_
     refine Za6 ?_
     refine Z5y ?_
     have hW3:=hid (hW2.out.below (B':=g6+1) hz Zb3 ((Below.refl _ _).setCell (p:=⟨g6+1,j,none⟩) (le_refl _) (.int .i8 x)))
     have hO3:=hid (own_other hO2.out (setCell_grown _ (g6+1) j (.int .i8 x)) Zb3)
     have hL3:=hid (hL2.out.set hltj x HXX.out)
     clear hW2 hO2 hL2
     refine Tk.s 14 rfl (fun K hK=>?_)
     go_simp
     refine hK.out _ _ ?_ (fun hHeld=>?_)
     ·exact hW3.out.1
     clear hK K
     refine Z5y ?_
     refine Z6y ?_
     clear hcl hfz hqt hrt hwy hwk
     go_wp2_with fail
     go_roundw
     case rel=>exact⟨j+1,by omega,by go_num,hW3,hO3,hL3⟩
     case measure=>simp [intOf];omega
    ·obtain rfl:j=L:=by omega
     obtain⟨ys,hy1,hy2,hown⟩:=hL1'.out
     obtain⟨rest,hheap,hgb2, -, -,hrl,hdl⟩:=own_heap hO1.out
     have hfit:o+(I8s ys).length≤(dataL F m o).length:=by rw [hdl];simp [I8s];omega
     have hlen:o+(I8s ys).length≤(dataL F m o ++ rest).length:=by rw [List.length_append];omega
     have hysl:(I8s ys).length=j:=by simp [I8s];exact hy1
     have hspl:splice (dataL F m o ++ rest) o (I8s ys)=dataL F m (o+j) ++ rest:=by rw [splice_front hfit,dataL_splice F ys hy1 hy2 hom]
     have hmn:j=Nat.min j (m - o):=by
      have:Nat.min j (m - o)=min j (m - o):=rfl
      omega
     have HHP:=hid hheap
     have HY1:=hid hysl
     have HLE:=hid hlen
     have HSP:=hid hspl
     have HMN:=hid hmn
     have HOW:=hid hown
     have HRL:=hid hrl
     have HGB:=hid hgb2
     have hoI:(i:Int) * (j:Int)=(o:Int):=HOI.out
     have hoI1:(o:Int)≤1024:=by omega
     have hoI0:(0:Int)≤(o:Int):=by omega
     have hom1:(o:Int)≤(m:Int):=by omega
     have hoc1:(o:Int)≤(c2:Int):=by omega
     have hoc2:¬ c2=o:=by omega
     have hoc3:¬ o=c2:=by omega
     clear hheap hy1 hy2 hown hrl hdl hfit hlen hysl hspl hmn hgb2
     go_wp2_with (
      refine wpList_copy_row rfl (.tmp 57) (.tmp 58) _ _ rfl 22 Tryz.underlying23 HSZ.out g2 o (m - o) (c2 - o) ⟨g6+1,0,none⟩ j j (by first | rfl | simp) (by first | rfl | simp) (dataL F m o ++ rest) 22 HHP.out (I8s ys) (HY1.out.trans HMN.out) (rd_own HOW.out) HLE.out (Kit.za5 .i8 ys) ?_
      intro w5 hg5 hgr5
      have HG5:Hid (w5.heap[g2]?=some (.cells (dataL F m (o+j) ++ rest).toArray 22 (0,0))):=(by have:=hg5.out;rw [HSP.out] at this;exact hid this)
      have hW5:=hid (hW1.out.grown Zb3 hgs hgr5)
      have hL5:=hid (hL1'.out.other hgr5 Zb3)
      rw [HY1.out]
      clear hg5 hgr5)
     go_roundw
     case rel =>
      refine⟨i+1,o,by omega,by go_num,hW5,?_,hid (hL5.out.any F o)⟩
      have e:(i+1) * j=o+j:=by rw [Nat.succ_mul,HOO.out]
      rw [e]
      exact hid (own_of_heap HG5.out HGB.out hc2 hcm (by have h1:=HRL.out;rw [List.length_append,dataL_len F Zb3] at h1 ⊢;exact h1) (dataL_len F hom))
     case measure=>simp [intOf];omega
  ·obtain rfl:i=a:=by omega
   have hiI:¬ (i:Int) < U:=by have:=HU.out;omega
   rw [HaL.out,dataL_all] at hO0
   have hz6:w.heap.size+1 < g6:=by omega
   have hn1:¬ g6=w.heap.size+1:=by omega
   have hn2:¬ w.heap.size+1=g6:=by omega
   go_wp2_with fail
   refine bodyPost_ret (Kit.zaa rfl _ _ (w.heap.size+1) 0 [Jj Jq U,Jj Jq V,Jj Jq C,.slice (some ⟨g2,0,none⟩) m c2] _ rfl (zao Zb6 Zb6 Zb6 Zb6) Tryz.underlying32 rfl Zb5) rfl ?_
   refine⟨_,rfl,Kit.zah (zat (zat (zat (zat hO0.out _ _ ?_) _ _ ?_) _ _ ?_) _ _ ?_) ?_,?_⟩
   any_goals (first | omega | (simp;done) | (simp;omega))
   exact (((HBW.out.setCell (p:=⟨w.heap.size+1,0,none⟩) Zb7 _).setCell (p:=⟨w.heap.size+1,1,none⟩) Zb7 _).setCell (p:=⟨w.heap.size+1,2,none⟩) Zb7 _).setCell (p:=⟨w.heap.size+1,3,none⟩) Zb7 _
end CPad
end
end Go.Proofs.YtchpdhhpkljdhaaGreatDoor
